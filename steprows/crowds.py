"""Crowds of walkers of several kinds, and their words."""

from math import factorial

from steprows.checks import check_kinds, check_places, is_below, is_row, is_row_of
from steprows.errors import BadCounts, BadKind, BadWord, TooMany
from steprows.ratios import is_int


def check_counts(counts):
    """The counts as a tuple."""
    if not is_row(counts) or len(counts) < 1 or len(counts) > Crowd.MOST_KINDS:
        raise BadCounts(-1)
    for place, count in enumerate(counts):
        if not is_int(count) or count < 1:
            raise BadCounts(place)
    if sum(counts) > 8:
        raise BadCounts(-2)
    return tuple(counts)


class Crowd:
    """How many walkers there are of each kind."""

    MOST_KINDS = 6
    MOST_WORDS = 400
    MOST_SOLVED = 36

    def __init__(self, counts):
        self.counts = check_counts(counts)
        self.size = sum(self.counts)
        self.kinds = len(self.counts)

    def __eq__(self, other):
        return isinstance(other, Crowd) and self.counts == other.counts

    @property
    def many(self):
        """The number of words."""
        number = factorial(self.size)
        for count in self.counts:
            number = number // factorial(count)
        return number

    @property
    def roomy(self):
        """True if each count is at least 2."""
        return min(self.counts) >= 2

    def bears(self, row):
        """True if no kind stands in the row more often than it is counted."""
        if not is_row(row):
            raise BadKind(-1)
        check_kinds(self.kinds, row)
        return all([row.count(kind) <= self.counts[kind] for kind in range(self.kinds)])

    def fewer(self, kind):
        """The counts with one walker of the kind less."""
        check_kinds(self.kinds, (kind,))
        less = list(self.counts)
        less[kind] -= 1
        return tuple(less)


def crowd_of(*counts):
    """The Crowd of these counts."""
    return Crowd(counts)


def check_listed(crowd):
    """Raises TooMany if the crowd has more words than are listed."""
    if crowd.many > Crowd.MOST_WORDS:
        raise TooMany(crowd.many)


def words_of(crowd):
    """The list of the words in order."""
    check_listed(crowd)
    return list(words_in(crowd))


def words_in(crowd):
    """The words in order, one after another, however many there are."""
    word = word_with(crowd, (), ())
    while word is not None:
        yield word
        word = word_after(word)


def word_after(word):
    """The next word in order; None after the last one."""
    rise = len(word) - 2
    while rise >= 0 and word[rise] >= word[rise + 1]:
        rise -= 1
    if rise < 0:
        return None
    more = len(word) - 1
    while word[more] <= word[rise]:
        more -= 1
    row = list(exchanged(word, rise, more))
    return tuple(row[:rise + 1] + row[rise + 1:][::-1])


def word_with(crowd, places, kinds):
    """The first word in order that has these kinds, which the crowd bears, at these places."""
    left = []
    for kind, count in enumerate(crowd.counts):
        left = left + [kind] * (count - kinds.count(kind))
    word = []
    for place in range(crowd.size):
        if place in places:
            word.append(kinds[places.index(place)])
        else:
            word.append(left.pop(0))
    return tuple(word)


def check_word(crowd, word):
    """The word of the crowd as a tuple."""
    if not is_row_of(word, crowd.size):
        raise BadWord(-1)
    for place, kind in enumerate(word):
        if not is_below(kind, crowd.kinds):
            raise BadWord(place)
    if not crowd.bears(word):
        raise BadWord(-2)
    return tuple(word)


def spot_of(crowd, word):
    """The number of the word in order, from 0."""
    left = list(crowd.counts)
    many = crowd.many
    spot = 0
    for place, kind in enumerate(check_word(crowd, word)):
        # Of the words that begin alike so far, those that go on with a
        # kind are to all of them as its walkers left are to all left.
        walkers = crowd.size - place
        spot = spot + many * sum(left[:kind]) // walkers
        many = many * left[kind] // walkers
        left[kind] = left[kind] - 1
    return spot


def exchanged(word, u, v):
    """The word, of any length and entries, with the entries at u and v exchanged."""
    if not is_row(word):
        raise BadWord(-1)
    check_places(len(word), (u, v))
    row = list(word)
    row[u], row[v] = row[v], row[u]
    return tuple(row)


def unlike_pairs(crowd):
    """How many pairs of places have unlike kinds in each word."""
    alike = sum([count * (count - 1) // 2 for count in crowd.counts])
    return crowd.size * (crowd.size - 1) // 2 - alike
