"""Told arrows: one direction and one speed for each tie, and one table of rates."""

from steprows.checks import check_crowd, check_kinds, check_length, check_right, is_positive, is_row_of, upper_pairs
from steprows.crowds import words_of
from steprows.errors import BadNumber
from steprows.ratios import Ratio, is_int, product_over, ratio_of, whole
from steprows.rounds import triples
from steprows.runs import Run, are_full, read_kind_rates
from steprows.shapes import is_tree
from steprows.shares import Shares


def is_arrow(tie, arrow):
    """True for a list or tuple (u, v, speed) with the two places of the tie, in either order."""
    if not is_row_of(arrow, 3):
        return False
    u, v, speed = arrow
    if not is_int(u) or not is_int(v) or not is_positive(speed):
        return False
    return tie in ((u, v), (v, u))


def read_arrows(web, arrows):
    """The arrows as a tuple of tuples, the speeds Ratios."""
    check_length(arrows, len(web.ties))
    check_right([is_arrow(tie, arrow) for tie, arrow in zip(web.ties, arrows)])
    return tuple([(u, v, ratio_of(speed)) for u, v, speed in arrows])


def tie_rates(there, back, rates):
    """The rates at a tie with one speed for the exchange as it is read and one for the turned one."""
    span = range(len(rates))
    return [[there * rates[a][b] + back * rates[b][a] for b in span] for a in span]


class Arrows:
    """A web, one arrow with a speed for each tie, and a table of rates for two kinds."""

    def __init__(self, web, arrows, rates):
        self.web = web
        self.arrows = read_arrows(web, arrows)
        self.rates = read_kind_rates(rates)
        if not are_full(self.rates):
            raise BadNumber("rates")
        self.kinds = len(self.rates)

    def as_run(self):
        """The run of the arrows."""
        tables = []
        for u, v, speed in self.arrows:
            if u < v:
                tables.append(tie_rates(speed, 0, self.rates))
            else:
                tables.append(tie_rates(0, speed, self.rates))
        return Run(self.web, self.kinds, tables)

    def ratio(self, a, b):
        """The rate of kinds a, b divided by that of b, a; 1 for a = b."""
        check_kinds(self.kinds, (a, b))
        if a == b:
            return Ratio(1)
        return self.rates[a][b].over(self.rates[b][a])

    def levels(self):
        """An integer for each place, one more where an arrow ends than where it begins; None if there are none."""
        found = {0: 0}
        while len(found) < self.web.size:
            for u, v, _ in self.arrows:
                if u in found and v not in found:
                    found[v] = found[u] + 1
                if v in found and u not in found:
                    found[u] = found[v] - 1
        if any([found[v] != found[u] + 1 for u, v, _ in self.arrows]):
            return None
        return tuple([found[place] for place in range(self.web.size)])

    def is_one_way(self):
        """True if the web is a row or a ring and all arrows point in the same direction along it."""
        return arrow_line(self) is not None


def arrow_line(arrows):
    """The line of the web in the direction in which all arrows point; None if there is none."""
    line = arrows.web.along
    if line is None:
        return None
    for way in (line, line[::-1]):
        # The step that closes a ring is no tie of a row.
        steps = list(zip(way, way[1:] + way[:1]))
        if all([(u, v) in steps for u, v, _ in arrows.arrows]):
            return way
    return None


def ratios_are_one(arrows):
    """True if all ratios are 1."""
    return all([arrows.ratio(a, b) == 1 for a, b in upper_pairs(arrows.kinds)])


def ratios_close(arrows):
    """True if the ratios of each three kinds, taken round, have the product 1."""
    return all([
        arrows.ratio(a, b) * arrows.ratio(b, c) * arrows.ratio(c, a) == 1 for a, b, c in triples(arrows.kinds)
    ])


def kind_round(arrows, crowd, a):
    """The product of the ratios of kind a to the kinds of all walkers."""
    check_crowd(arrows, crowd)
    return product_over([arrows.ratio(a, kind).to_power(count) for kind, count in enumerate(crowd.counts)])


def arrow_case(arrows, crowd):
    """The number of the first case in which the run of the arrows stands; 0 if none holds."""
    check_crowd(arrows, crowd)
    if ratios_are_one(arrows):
        return 1
    if ratios_close(arrows) and arrows.levels() is not None:
        return 2
    if not arrows.is_one_way():
        return 0
    if is_tree(arrows.web):
        return 3
    if all([kind_round(arrows, crowd, a) == 1 for a in range(arrows.kinds)]):
        return 4
    return 0


def level_value(arrows, levels, word):
    """The value of a word in case 2."""
    return product_over([arrows.ratio(kind, 0).to_power(level) for kind, level in zip(word, levels)])


def order_value(arrows, line, word):
    """The value of a word in the cases 3 and 4."""
    row = [word[place] for place in line]
    falls = [(row[j], row[i]) for i, j in upper_pairs(len(row)) if row[i] > row[j]]
    return product_over([arrows.ratio(a, b) for a, b in falls])


def arrow_shares(arrows, crowd):
    """The standing Shares of the run of the arrows; None if it does not stand."""
    check_crowd(arrows, crowd)
    words = words_of(crowd)
    case = arrow_case(arrows, crowd)
    if case == 0:
        return None
    if case == 1:
        return Shares.even(crowd)
    if case == 2:
        levels = arrows.levels()
        return Shares(crowd, whole([level_value(arrows, levels, word) for word in words]))
    line = arrow_line(arrows)
    return Shares(crowd, whole([order_value(arrows, line, word) for word in words]))
