"""What several tests share: webs, crowds, numbers by a fixed rule, and how an error is told."""

from fractions import Fraction
from itertools import combinations

from steprows.crowds import Crowd, exchanged, words_of
from steprows.errors import StepError
from steprows.ratios import Ratio
from steprows.webs import Web


def told(call, *things, **more):
    """The error's class name and attributes, in the order in which they were given."""
    try:
        call(*things, **more)
    except StepError as error:
        return (error.__class__.__name__,) + tuple(vars(error).values())
    return None


class Numbers:
    """Numbers that look arbitrary but are the same in each run."""

    def __init__(self, seed=1):
        self.state = seed

    def below(self, bound):
        self.state = (self.state * 6364136223846793005 + 1442695040888963407) % 2 ** 64
        return (self.state >> 33) % bound

    def ratio(self):
        return Ratio(1 + self.below(5), 1 + self.below(4))

    def ratios(self, many):
        return [self.ratio() for _ in range(many)]

    def choice(self, things):
        return things[self.below(len(things))]

    def shuffled(self, things):
        rest, out = list(things), []
        while rest:
            out.append(rest.pop(self.below(len(rest))))
        return out


def renamed(web, order):
    """The web with the place u called order[u]."""
    return Web(web.size, sorted(tuple(sorted((order[u], order[v]))) for u, v in web.ties))


def some_webs(size):
    """Webs of every shape, the places in several orders."""
    numbers = Numbers(size)
    webs = [Web.row(size), Web.ring(size), Web.star(size), Web.full(size)]
    if size >= 4:
        webs.append(Web.ring(size) + (0, 2))
        webs.append(Web.row(size) + (0, 2))
        webs.append(Web.full(size) - (0, 1))
    for web in list(webs):
        webs.append(renamed(web, numbers.shuffled(range(size))))
    return webs


def small_crowds(size, kinds=(2, 3, 4)):
    """Crowds of that size with that many kinds."""
    found = []
    for many in kinds:
        for cuts in combinations(range(1, size), many - 1):
            ends = (0,) + cuts + (size,)
            found.append(Crowd([high - low for low, high in zip(ends, ends[1:])]))
    return found


def fraction(thing):
    if isinstance(thing, Ratio):
        return Fraction(thing.top, thing.bottom)
    return Fraction(thing)


def spread_chances(table, crowd):
    """What the table makes of the chance 1 of the first word, by way of every step; None if steps disagree."""
    words = words_of(crowd)
    found = {words[0]: Fraction(1)}
    waiting = [words[0]]
    while waiting:
        word = waiting.pop()
        for u, v in table.web.ties:
            after = exchanged(word, u, v)
            chance = found[word] * fraction(table.at(u, v, word[u], word[v]))
            if after not in found:
                found[after] = chance
                waiting.append(after)
            elif found[after] != chance:
                return None
    return [found[word] for word in words]


def all_ratios(thing):
    """True if what stands in nested tuples are Ratios only."""
    if isinstance(thing, tuple):
        return all(all_ratios(part) for part in thing)
    return isinstance(thing, Ratio)
