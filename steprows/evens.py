"""Even runs, for which all words are equally likely."""

from steprows.checks import (
    check_crowd, check_kinds, check_measure, check_place_row, check_places, check_unlike_kinds, upper_pairs,
)
from steprows.errors import Unfit
from steprows.leans import lean_of
from steprows.pairs import entry_of
from steprows.parts import pull
from steprows.ratios import sum_over
from steprows.rounds import triples


def turn_sum(lean, places, kinds):
    """The sum of the nine entries for three places and three kinds, both taken round."""
    check_place_row(lean.size, places, 3)
    check_unlike_kinds(lean.kinds, kinds, 3)
    u, v, s = places
    a, b, c = kinds
    return sum_over([
        entry_of(lean, q, r, y, z) for q, r in ((u, v), (v, s), (s, u)) for y, z in ((a, b), (b, c), (c, a))
    ])


def all_sum(lean, crowd, u, a):
    """The sum over all other places and all walkers of the entries of place u and kind a."""
    check_measure(lean, crowd)
    check_places(lean.size, (u,))
    check_kinds(lean.kinds, (a,))
    return sum_over([pull(lean, u, a, b) * count for b, count in enumerate(crowd.counts)])


def is_even(run, crowd):
    """True if the shares with all weights 1 are lasting for the run."""
    return even_fault(run, crowd) is None


def turn_fault(lean):
    """A turn sum that is not 0; None if there is none."""
    for places in triples(lean.size):
        for kinds in triples(lean.kinds):
            if turn_sum(lean, places, kinds) != 0:
                return ("turn", places, kinds)
    return None


def all_fault(lean, crowd):
    """An all sum that is not 0; None if there is none."""
    for u in range(lean.size):
        for a in range(lean.kinds):
            if all_sum(lean, crowd, u, a) != 0:
                return ("all", (u,), (a,))
    return None


def even_fault(run, crowd):
    """A sum that is not 0, an all sum only if all turn sums are 0; None if the run is even."""
    check_crowd(run, crowd)
    lean = lean_of(run)
    fault = turn_fault(lean)
    if fault is not None:
        return fault
    return all_fault(lean, crowd)


def even_always(run):
    """True if the run is even for every crowd with as many places and kinds."""
    if run.web.size <= run.kinds:
        raise Unfit()
    lean = lean_of(run)
    # A table on kinds is a difference if it is one for each three of them.
    differences = all([
        entry_of(lean, u, v, a, b) + entry_of(lean, u, v, b, c) == entry_of(lean, u, v, a, c)
        for u, v in run.web.ties for a, b, c in triples(run.kinds)
    ])
    return differences and all([
        pull(lean, u, a, b) == 0 for u in range(lean.size) for a, b in upper_pairs(run.kinds)
    ])
