"""The parts of a lean: differences and balanced ones, of places and of kinds."""

from steprows.checks import check_measure, upper_pairs
from steprows.leans import Lean
from steprows.pairs import entry_of
from steprows.ratios import Ratio, sum_over


def pull(lean, u, a, b):
    """The sum over all other places of the entries of the place u for the kinds a, b."""
    return sum_over([entry_of(lean, u, s, a, b) for s in range(lean.size) if s != u])


def place_parts(lean):
    """The two Leans by places: for each two kinds a difference of places, and a balanced one."""
    span = range(lean.kinds)
    part = Ratio(1, lean.size)
    pulls = [[[pull(lean, u, a, b) * part for b in span] for a in span] for u in range(lean.size)]
    difference = Lean(lean.size, lean.kinds, [
        [[pulls[u][a][b] - pulls[v][a][b] for b in span] for a in span] for u, v in upper_pairs(lean.size)
    ])
    return (difference, lean - difference)


def kind_table(table, counts):
    """The difference of kinds in a table on kinds, the rest of which is balanced by the counts."""
    part = Ratio(1, sum(counts))
    means = [sum_over([entry * count for entry, count in zip(row, counts)]) * part for row in table]
    return [[one - other for other in means] for one in means]


def kind_parts(lean, crowd):
    """The two Leans by kinds: for each two places a difference of kinds, and a balanced one."""
    check_measure(lean, crowd)
    difference = Lean(lean.size, lean.kinds, [kind_table(table, crowd.counts) for table in lean.tables])
    return (difference, lean - difference)


def four_parts(lean, crowd):
    """The Leans DD, DB, BD, BB: difference or balanced by places, then by kinds."""
    difference, rest = place_parts(lean)
    return kind_parts(difference, crowd) + kind_parts(rest, crowd)
