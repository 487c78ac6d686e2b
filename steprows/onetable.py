"""One-table runs: two speeds for each tie and one table of rates."""

from steprows.arrows import tie_rates
from steprows.checks import (
    check_crowd, check_length, check_right, is_below, is_ratio_row, is_row, ratio_row, upper_pairs,
)
from steprows.errors import BadWord, Unfit
from steprows.ratios import Ratio, sum_over
from steprows.runs import Run, read_kind_rates
from steprows.webs import Web


def is_speeds(pair):
    """True for a list or tuple of two ratios of at least 0, not both 0."""
    if not is_ratio_row(pair, 2):
        return False
    there, back = ratio_row(pair)
    return there.top >= 0 and back.top >= 0 and there.top + back.top > 0


class OneTable:
    """A web, two speeds for each tie, and a table of rates for two kinds."""

    def __init__(self, web, speeds, rates):
        check_length(speeds, len(web.ties))
        check_right([is_speeds(pair) for pair in speeds])
        self.web = web
        self.speeds = tuple([ratio_row(pair) for pair in speeds])
        self.rates = read_kind_rates(rates)
        self.kinds = len(self.rates)

    def as_run(self):
        """The run of the one-table run."""
        return Run(self.web, self.kinds, [tie_rates(there, back, self.rates) for there, back in self.speeds])


def is_level(table):
    """True if all entries are 0."""
    return all([entry == 0 for row in table for entry in row])


def is_difference(table):
    """True if the entry of each two is a number of the one less that of the other."""
    span = range(len(table))
    # Where there are such numbers, those of the first column are some.
    return all([table[i][j] == table[i][0] - table[j][0] for i in span for j in span])


def is_balanced(table, counts):
    """True if the entries of each row, as often as they are counted, add up to 0."""
    return all([sum_over([entry * count for entry, count in zip(row, counts)]) == 0 for row in table])


def speed_leans(one):
    """The table of the speed from u to v less that from v to u; 0 at non-ties."""
    rows = [[Ratio(0)] * one.web.size for place in range(one.web.size)]
    for (u, v), (there, back) in zip(one.web.ties, one.speeds):
        rows[u][v] = there - back
        rows[v][u] = back - there
    return rows


def rate_leans(one):
    """The table of the rate of a, b less that of b, a."""
    span = range(one.kinds)
    return [[one.rates[a][b] - one.rates[b][a] for b in span] for a in span]


def four_cases(one, crowd):
    """For each case of an even one-table run whether it holds."""
    check_crowd(one, crowd)
    places = speed_leans(one)
    kinds = rate_leans(one)
    return (
        is_level(places),
        is_level(kinds),
        is_balanced(places, [1] * one.web.size) and is_difference(kinds),
        is_difference(places) and is_balanced(kinds, crowd.counts),
    )


def across(one):
    """The OneTable in which places and kinds are exchanged."""
    size = one.web.size
    if one.kinds != size:
        raise Unfit()
    pairs = [(a, b) for a, b in upper_pairs(size) if one.rates[a][b] or one.rates[b][a]]
    web = Web(size, pairs)
    rates = [[Ratio(0)] * size for place in range(size)]
    for (u, v), (there, back) in zip(one.web.ties, one.speeds):
        rates[u][v] = there
        rates[v][u] = back
    return OneTable(web, [(one.rates[a][b], one.rates[b][a]) for a, b in pairs], rates)


def read_across(word):
    """The word that has at place a the place where kind a stands."""
    if not is_row(word) or len(word) < 3 or len(word) > 6:
        raise BadWord(-1)
    for place, kind in enumerate(word):
        if not is_below(kind, len(word)) or kind in word[:place]:
            raise BadWord(place)
    return tuple([list(word).index(kind) for kind in range(len(word))])
