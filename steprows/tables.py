"""Ratio tables: by how much an exchange multiplies a chance."""

from steprows.checks import (
    are_alike, check_alike, check_length, check_many_kinds, check_right, entry_at, is_positive, is_square,
    ratio_rows, read_uppers, square_from,
)
from steprows.ratios import product_over
from steprows.walks import check_walk


def are_entries(table, kinds):
    """True for a table of positive ratios, those of exchanged kinds inverse to each other."""
    if not is_square(table, kinds):
        return False
    if not all([is_positive(entry) for row in table for entry in row]):
        return False
    if any([table[a][a] != 1 for a in range(kinds)]):
        return False
    return all([table[a][b] * table[b][a] == 1 for a in range(kinds) for b in range(a)])


def read_entries(web, kinds, entries):
    """One table of Ratios for each tie."""
    check_length(entries, len(web.ties))
    check_right([are_entries(table, kinds) for table in entries])
    return tuple([ratio_rows(table) for table in entries])


class RatioTable:
    """A web, a number of kinds and, for each tie, the ratios of two kinds."""

    def __init__(self, web, kinds, entries):
        check_many_kinds(kinds)
        self.web = web
        self.kinds = kinds
        self.entries = read_entries(web, kinds, entries)

    @classmethod
    def even(cls, web, kinds):
        """The flat table."""
        check_many_kinds(kinds)
        return cls(web, kinds, [[[1] * kinds] * kinds] * len(web.ties))

    def __eq__(self, other):
        return isinstance(other, RatioTable) and are_alike(self, other) and self.entries == other.entries

    def __mul__(self, other):
        check_alike(self, other)
        return RatioTable(self.web, self.kinds, [
            [[entry * more for entry, more in zip(row, more_row)] for row, more_row in zip(table, more_table)]
            for table, more_table in zip(self.entries, other.entries)
        ])

    @property
    def flat(self):
        """True if all entries are 1."""
        return all([entry == 1 for table in self.entries for row in table for entry in row])

    def at(self, u, v, a, b):
        """The entry for kind a at u and kind b at v."""
        return entry_at(self, self.entries, (u, v), (a, b))

    def turn(self, u, v, a, b, c):
        """The product of the entries for a, b and b, c and c, a."""
        return self.at(u, v, a, b) * self.at(u, v, b, c) * self.at(u, v, c, a)

    def inverse(self):
        """The table of the inverse entries."""
        return RatioTable(self.web, self.kinds, [
            [[entry.inverse() for entry in row] for row in table] for table in self.entries
        ])


def table_of(web, kinds, uppers):
    """The RatioTable with these entries for the pairs a < b of kinds."""
    check_many_kinds(kinds)
    rows = read_uppers(web, kinds, uppers)
    return RatioTable(web, kinds, [square_from(kinds, row, 1, [entry.inverse() for entry in row]) for row in rows])


def product_of(table, words):
    """The product of a walk by the table."""
    return product_over([table.at(u, v, a, b) for u, v, a, b in check_walk(table, words)])
