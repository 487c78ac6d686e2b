"""Runs: the rates at which walkers change places."""

from steprows.checks import (
    check_alike, check_crowd, check_kinds, check_length, check_many_kinds, check_places, check_right,
    entry_at, is_row, is_square, ratio_rows,
)
from steprows.crowds import check_word, exchanged
from steprows.errors import BadNumber
from steprows.ratios import Ratio, is_ratio, ratio_of


def are_rates(table, kinds):
    """True for a table of rates, 0 for alike kinds."""
    if not is_square(table, kinds):
        return False
    if any([table[a][a] != 0 for a in range(kinds)]):
        return False
    return all([ratio_of(rate).top >= 0 for row in table for rate in row])


def are_full(table):
    """True if the rates of all unlike kinds are positive."""
    return all([rate.top > 0 for a, row in enumerate(table) for b, rate in enumerate(row) if a != b])


def read_kind_rates(rates):
    """The rates of a table for 2 to 6 kinds, without places, as a tuple of tuples of Ratios."""
    if not is_row(rates) or len(rates) < 2 or len(rates) > 6 or not are_rates(rates, len(rates)):
        raise BadNumber("rates")
    return ratio_rows(rates)


def read_rates(web, kinds, rates):
    """One table of Ratios for each tie."""
    check_length(rates, len(web.ties))
    check_right([are_rates(table, kinds) for table in rates])
    return tuple([ratio_rows(table) for table in rates])


class Run:
    """A web, a number of kinds and, for each tie, the rates at which two kinds change places."""

    def __init__(self, web, kinds, rates):
        check_many_kinds(kinds)
        self.web = web
        self.kinds = kinds
        self.rates = read_rates(web, kinds, rates)

    @classmethod
    def level(cls, web, kinds):
        """The run with all rates for unlike kinds 1."""
        check_many_kinds(kinds)
        table = [[0 if a == b else 1 for b in range(kinds)] for a in range(kinds)]
        return cls(web, kinds, [table for tie in web.ties])

    def __eq__(self, other):
        return (
            isinstance(other, Run) and self.web == other.web and self.kinds == other.kinds
            and self.rates == other.rates
        )

    def __add__(self, other):
        check_alike(self, other)
        return Run(self.web, self.kinds, [
            [[rate + more for rate, more in zip(row, more_row)] for row, more_row in zip(table, more_table)]
            for table, more_table in zip(self.rates, other.rates)
        ])

    def __mul__(self, other):
        if not is_ratio(other) or ratio_of(other).top < 0:
            raise BadNumber("other")
        return Run(self.web, self.kinds, [[[rate * other for rate in row] for row in table] for table in self.rates])

    @property
    def filled(self):
        """True if all rates for unlike kinds are positive."""
        return all([are_full(table) for table in self.rates])

    def rate(self, u, v, a, b):
        """The rate at which kind a at u and kind b at v change places."""
        return entry_at(self, self.rates, (u, v), (a, b))

    def lean(self, u, v, a, b):
        """The rate less the rate back; 0 where u and v are not tied."""
        check_places(self.web.size, (u, v))
        check_kinds(self.kinds, (a, b))
        if (u, v) not in self.web:
            return Ratio(0)
        return self.rate(u, v, a, b) - self.rate(u, v, b, a)


def moves(run, crowd, word):
    """The steps with positive rate from the word: the tie, the word stepped to, the rate."""
    check_crowd(run, crowd)
    here = check_word(crowd, word)
    steps = []
    for u, v in run.web.ties:
        rate = run.rate(u, v, here[u], here[v])
        if rate.top > 0:
            steps.append(((u, v), exchanged(here, u, v), rate))
    return steps
