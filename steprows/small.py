"""Small sums, which tell whether a pair sum is 0 on every word or a one-place sum."""

from steprows.checks import (
    check_measure, check_place_row, check_places, check_unlike_kinds, is_below, is_row_of, upper_pairs,
)
from steprows.errors import BadKind
from steprows.pairs import entry_of
from steprows.ratios import sum_over
from steprows.rounds import triples


def three_sum(pairs, places, kinds):
    """The three-sum of three places and three kinds."""
    check_place_row(pairs.size, places, 3)
    check_unlike_kinds(pairs.kinds, kinds, 3)
    u, v, s = places
    a, b, c = kinds
    return sum_over([
        entry_of(pairs, y, z, first, second) - entry_of(pairs, y, z, second, first)
        for y, z in ((u, v), (v, s), (s, u)) for first, second in ((a, b), (b, c), (c, a))
    ])


def check_four_kinds(kinds, row):
    """Raises BadKind unless row is a list or tuple of four kinds, the first two unlike and the last two."""
    if not is_row_of(row, 4):
        raise BadKind(-1)
    for number, kind in enumerate(row):
        if not is_below(kind, kinds) or (number in (1, 3) and kind == row[number - 1]):
            raise BadKind(kind)


def cross(pairs, u, s, kinds):
    """What exchanging a for b at u and c for e at s does to the entry of u and s."""
    a, b, c, e = kinds
    first = entry_of(pairs, u, s, a, c) + entry_of(pairs, u, s, b, e)
    return first - (entry_of(pairs, u, s, b, c) + entry_of(pairs, u, s, a, e))


def four_sum(pairs, places, kinds):
    """The four-sum of four places and four kinds."""
    check_place_row(pairs.size, places, 4)
    check_four_kinds(pairs.kinds, kinds)
    u, v, s, t = places
    first = cross(pairs, u, s, kinds) + cross(pairs, v, t, kinds)
    return first - (cross(pairs, u, t, kinds) + cross(pairs, v, s, kinds))


def one_mean(pairs, crowd, u, a):
    """The mean of the pair sum over the words with kind a at place u."""
    check_measure(pairs, crowd)
    check_places(crowd.size, (u,))
    less = crowd.fewer(a)
    span = range(crowd.kinds)
    others = [place for place in range(crowd.size) if place != u]
    near = sum_over([entry_of(pairs, u, v, a, b) * less[b] for v in others for b in span])
    twos = [(b, c, less[b] * (less[c] - (1 if b == c else 0))) for b in span for c in span]
    far = sum_over([
        entry_of(pairs, others[i], others[j], b, c) * many
        for i, j in upper_pairs(len(others)) for b, c, many in twos if many > 0
    ])
    return near.over(crowd.size - 1) + far.over((crowd.size - 1) * (crowd.size - 2))


def borne_kinds(crowd):
    """The rows a, b, c, e with a < b and c < e that the crowd bears."""
    pairs = upper_pairs(crowd.kinds)
    return [(a, b, c, e) for a, b in pairs for c, e in pairs if crowd.bears((a, b, c, e))]


def four_places(size):
    """The rows u, v, s, t of different places with u < v, s < t and u < s."""
    pairs = upper_pairs(size)
    return [(u, v, s, t) for u, v in pairs for s, t in pairs if u < s and v not in (s, t)]


def four_fault(pairs, crowd):
    """A four-sum, borne by the crowd, that is not 0; None if there is none."""
    rows = four_places(crowd.size)
    span = range(crowd.size)
    for kinds in borne_kinds(crowd):
        crosses = {(u, s): cross(pairs, u, s, kinds) for u in span for s in span if u != s}
        for u, v, s, t in rows:
            if crosses[(u, s)] + crosses[(v, t)] != crosses[(u, t)] + crosses[(v, s)]:
                return ("four", (u, v, s, t), kinds)
    return None


def three_fault(pairs):
    """A three-sum that is not 0; None if there is none."""
    for places in triples(pairs.size):
        for kinds in triples(pairs.kinds):
            if three_sum(pairs, places, kinds) != 0:
                return ("three", places, kinds)
    return None


def one_fault(pairs, crowd):
    """A one-mean that is not 0; None if there is none."""
    for u in range(crowd.size):
        for a in range(crowd.kinds):
            if one_mean(pairs, crowd, u, a) != 0:
                return ("one", (u,), (a,))
    return None


def single_fault(pairs, crowd):
    """A small sum that shows that the pair sum is no one-place sum on the crowd; None if it is one."""
    check_measure(pairs, crowd)
    if crowd.size == 3:
        return three_fault(pairs)
    return four_fault(pairs, crowd)


def is_single(pairs, crowd):
    """True if the pair sum is a one-place sum on the crowd."""
    return single_fault(pairs, crowd) is None


def singles(pairs, crowd):
    """For each place and kind a number of which the pair sum is the one-place sum; None if there are none."""
    if not is_single(pairs, crowd):
        return None
    size = crowd.size
    means = [[one_mean(pairs, crowd, u, a) for a in range(crowd.kinds)] for u in range(size)]
    total = sum_over([mean * count for mean, count in zip(means[0], crowd.counts)]).over(size)
    # Numbers of a one-place sum can be moved between places and kinds until those
    # of each kind add up to the mean of the sum. A one-mean is then n/(n-1) times
    # its number and (n-2)/(n-1) times that mean.
    return tuple([
        tuple([(mean * (size - 1) - total * (size - 2)).over(size) for mean in row]) for row in means
    ])


def vanishes(pairs, crowd):
    """True if the pair sum is 0 on every word of the crowd."""
    return small_fault(pairs, crowd) is None


def small_fault(pairs, crowd):
    """A small sum that is not 0, a one-mean only if there is no other; None if the pair sum is 0 on every word."""
    fault = single_fault(pairs, crowd)
    if fault is not None:
        return fault
    return one_fault(pairs, crowd)
