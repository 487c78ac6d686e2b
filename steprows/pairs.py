"""Sums over pairs of places."""

from steprows.checks import (
    check_free_word, check_kinds, check_length, check_many_kinds, check_measure, check_places, check_right,
    is_ratio_row, is_square, ratio_rows, upper_pairs,
)
from steprows.errors import BadNumber
from steprows.ratios import Ratio, is_ratio, sum_over
from steprows.webs import check_size


def check_span(size, kinds):
    """Raises BadNumber unless pair sums and leans may have so many places and kinds."""
    check_size(size)
    check_many_kinds(kinds)


def zero_tables(size, kinds):
    """For each pair of places the table with all entries 0."""
    return [[[0] * kinds] * kinds] * len(upper_pairs(size))


def pair_number(size, u, v):
    """The number of the pair u < v of places, in order."""
    return u * (2 * size - u - 1) // 2 + v - u - 1


def entry_of(holder, u, v, a, b):
    """The entry of a pair sum or a lean for kind a at u and kind b at v; nothing is checked."""
    if u > v:
        return holder.tables[pair_number(holder.size, v, u)][b][a]
    return holder.tables[pair_number(holder.size, u, v)][a][b]


def entry_between(holder, u, v, a, b):
    """The same entry, after checking the places and the kinds."""
    check_places(holder.size, (u, v))
    check_kinds(holder.kinds, (a, b))
    return entry_of(holder, u, v, a, b)


def added_tables(first, second):
    """The sums of the entries of two pair sums or two leans."""
    check_measure(first, second)
    return [
        [[one + more for one, more in zip(row, more_row)] for row, more_row in zip(table, more_table)]
        for table, more_table in zip(first.tables, second.tables)
    ]


def times_tables(holder, number):
    """The entries of a pair sum or a lean, multiplied by the number."""
    if not is_ratio(number):
        raise BadNumber("other")
    return [[[one * number for one in row] for row in table] for table in holder.tables]


class PairSum:
    """A number for each two places and their kinds; its value at a word is their sum."""

    def __init__(self, size, kinds, tables):
        check_span(size, kinds)
        check_length(tables, len(upper_pairs(size)))
        check_right([is_square(table, kinds) for table in tables])
        self.size = size
        self.kinds = kinds
        self.tables = tuple([ratio_rows(table) for table in tables])

    @classmethod
    def nothing(cls, size, kinds):
        """The pair sum with all entries 0."""
        check_span(size, kinds)
        return cls(size, kinds, zero_tables(size, kinds))

    def __call__(self, word):
        """The pair sum at the word."""
        here = check_free_word(self.size, word, self.kinds)
        return sum_over([entry_of(self, u, v, here[u], here[v]) for u, v in upper_pairs(self.size)])

    def __add__(self, other):
        return PairSum(self.size, self.kinds, added_tables(self, other))

    def __sub__(self, other):
        return self + other * -1

    def __mul__(self, other):
        return PairSum(self.size, self.kinds, times_tables(self, other))

    def __eq__(self, other):
        return (
            isinstance(other, PairSum) and self.size == other.size and self.kinds == other.kinds
            and self.tables == other.tables
        )

    def at(self, u, v, a, b):
        """The entry for kind a at u and kind b at v."""
        return entry_between(self, u, v, a, b)


def of_places(size, kinds, spots):
    """A PairSum whose value at each word is the sum of the spots of its kinds."""
    check_span(size, kinds)
    check_length(spots, size)
    check_right([is_ratio_row(row, kinds) for row in spots])
    # Each place is in size - 1 pairs.
    part = Ratio(1, size - 1)
    rows = [[spot * part for spot in row] for row in spots]
    return PairSum(size, kinds, [[[one + more for more in rows[v]] for one in rows[u]] for u, v in upper_pairs(size)])
