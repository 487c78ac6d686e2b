"""Shares: the chances of the words."""

from steprows.checks import check_crowd, check_kinds, check_places, check_right, check_length, check_web_crowd
from steprows.crowds import check_listed, check_word, exchanged, spot_of, words_of
from steprows.errors import BadTable
from steprows.ratios import Ratio, is_int, whole
from steprows.rounds import check_kept
from steprows.tables import RatioTable


def read_weights(crowd, weights):
    """The weights as a tuple of integers without a common divisor."""
    check_listed(crowd)
    check_length(weights, crowd.many)
    check_right([is_int(weight) and weight >= 0 for weight in weights])
    if sum(weights) == 0:
        raise BadTable(-1)
    return whole(weights)


class Shares:
    """A weight for each word of a crowd, words in order."""

    def __init__(self, crowd, weights):
        self.crowd = crowd
        self.weights = read_weights(crowd, weights)
        self.bottom = sum(self.weights)

    @classmethod
    def even(cls, crowd):
        """The shares with all weights 1."""
        return cls(crowd, [1] * crowd.many)

    def __getitem__(self, at):
        return Ratio(self.weights[spot_of(self.crowd, at)], self.bottom)

    def __len__(self):
        return len(self.weights)

    def __iter__(self):
        return iter(self.weights)

    def __eq__(self, other):
        return isinstance(other, Shares) and self.crowd == other.crowd and self.weights == other.weights

    def at_place(self, u, a):
        """The chance of kind a at place u."""
        check_places(self.crowd.size, (u,))
        check_kinds(self.crowd.kinds, (a,))
        words = words_of(self.crowd)
        return Ratio(sum([weight for word, weight in zip(words, self.weights) if word[u] == a]), self.bottom)

    def at_two(self, u, a, v, b):
        """The chance of kind a at place u and kind b at place v."""
        check_places(self.crowd.size, (u, v))
        check_kinds(self.crowd.kinds, (a, b))
        words = words_of(self.crowd)
        return Ratio(
            sum([weight for word, weight in zip(words, self.weights) if word[u] == a and word[v] == b]),
            self.bottom,
        )

    def ratio_at(self, word, u, v):
        """The chance after the exchange at u and v divided by that before; None if that is 0."""
        here = check_word(self.crowd, word)
        there = exchanged(here, u, v)
        if not self[here]:
            return None
        return self[there].over(self[here])


def local_shares(table, crowd):
    """The Shares that are local with the table."""
    check_crowd(table, crowd)
    words = words_of(crowd)
    check_kept(table, crowd)
    chances = {words[0]: Ratio(1)}
    waiting = [words[0]]
    while waiting:
        word = waiting.pop()
        for u, v in table.web.ties:
            after = exchanged(word, u, v)
            if after not in chances:
                chances[after] = chances[word] * table.at(u, v, word[u], word[v])
                waiting.append(after)
    return Shares(crowd, whole([chances[word] for word in words]))


def tie_table(weights, kinds, u, v):
    """The table of what exchanges over the tie do to the weights; None if it depends on more."""
    found = {}
    for word in weights:
        if weights[word] == 0:
            return None
        pair = (word[u], word[v])
        ratio = Ratio(weights[exchanged(word, u, v)], weights[word])
        if found.get(pair, ratio) != ratio:
            return None
        found[pair] = ratio
    return [[1 if a == b else found[(a, b)] for b in range(kinds)] for a in range(kinds)]


def table_in(web, shares):
    """The RatioTable with which the shares are local on the web; None if there is none."""
    check_web_crowd(web, shares.crowd)
    kinds = shares.crowd.kinds
    weights = {word: weight for word, weight in zip(words_of(shares.crowd), shares.weights)}
    tables = []
    for u, v in web.ties:
        table = tie_table(weights, kinds, u, v)
        if table is None:
            return None
        tables.append(table)
    return RatioTable(web, kinds, tables)
