"""Leans: by how much a rate exceeds the rate back, at all pairs of places."""

from steprows.checks import check_length, check_right, is_square, ratio_rows, upper_pairs
from steprows.errors import BadNumber, Unfit
from steprows.pairs import PairSum, added_tables, check_span, entry_between, entry_of, times_tables, zero_tables
from steprows.ratios import Ratio, is_ratio, ratio_of
from steprows.runs import Run
from steprows.shapes import non_ties


def is_lean_table(table, kinds):
    """True for a table of ratios, those of exchanged kinds negative to each other."""
    if not is_square(table, kinds):
        return False
    return all([table[a][b] == -table[b][a] for a in range(kinds) for b in range(a + 1)])


class Lean:
    """For each two places a table of ratios that turn their sign when the kinds are exchanged."""

    def __init__(self, size, kinds, tables):
        check_span(size, kinds)
        check_length(tables, len(upper_pairs(size)))
        check_right([is_lean_table(table, kinds) for table in tables])
        self.size = size
        self.kinds = kinds
        self.tables = tuple([ratio_rows(table) for table in tables])

    @classmethod
    def nothing(cls, size, kinds):
        """The lean with all entries 0."""
        check_span(size, kinds)
        return cls(size, kinds, zero_tables(size, kinds))

    def __eq__(self, other):
        return (
            isinstance(other, Lean) and self.size == other.size and self.kinds == other.kinds
            and self.tables == other.tables
        )

    def __add__(self, other):
        return Lean(self.size, self.kinds, added_tables(self, other))

    def __sub__(self, other):
        return self + other * -1

    def __mul__(self, other):
        return Lean(self.size, self.kinds, times_tables(self, other))

    def at(self, u, v, a, b):
        """The entry for kind a at u and kind b at v."""
        return entry_between(self, u, v, a, b)


def lean_of(run):
    """The Lean of a run."""
    web = run.web
    span = range(run.kinds)
    return Lean(web.size, run.kinds, [
        [[run.lean(u, v, a, b) for b in span] for a in span] for u, v in upper_pairs(web.size)
    ])


def is_on(lean, web):
    """True if the lean is 0 at all non-ties of the web."""
    if lean.size != web.size:
        raise Unfit()
    span = range(lean.kinds)
    return all([entry_of(lean, u, v, a, b) == 0 for u, v in non_ties(web) for a in span for b in span])


def lean_rate(lean, level, u, v, a, b):
    """The rate of run_of for kind a at u and kind b at v."""
    if a == b:
        return Ratio(0)
    more = entry_of(lean, u, v, a, b)
    if more.top > 0:
        return more + level
    return ratio_of(level)


def run_of(web, lean, *, level=1):
    """The Run with this lean whose lesser rate of each two kinds is the level."""
    if not is_on(lean, web):
        raise Unfit()
    if not is_ratio(level) or ratio_of(level).top < 0:
        raise BadNumber("level")
    span = range(lean.kinds)
    return Run(web, lean.kinds, [
        [[lean_rate(lean, level, u, v, a, b) for b in span] for a in span] for u, v in web.ties
    ])


def as_pairs(lean):
    """The PairSum with the same tables."""
    return PairSum(lean.size, lean.kinds, lean.tables)
