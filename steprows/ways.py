"""The ways in which even runs can lean, and webs on which they all stand."""

from steprows.checks import check_many_kinds, check_web_crowd, upper_pairs
from steprows.leans import Lean, run_of
from steprows.ratios import Ratio
from steprows.shapes import is_star, is_tree, pieces, rounds


def round_strength(ring, u, v):
    """1 if the ring of places goes from u to v, -1 if it goes from v to u, else 0."""
    steps = list(zip(ring, ring[1:] + ring[:1]))
    return Ratio(steps.count((u, v)) - steps.count((v, u)))


def circulations(web):
    """For each round of the web its circulation, one ratio for each tie u < v."""
    return [tuple([round_strength(ring, u, v) for u, v in web.ties]) for ring in rounds(web)]


def is_circulation(web, strengths):
    """True if at each place the strengths of its ties, read away from it, add up to 0."""
    sums = [Ratio(0)] * web.size
    for (u, v), strength in zip(web.ties, strengths):
        sums[u] = sums[u] + strength
        sums[v] = sums[v] - strength
    return all([one == 0 for one in sums])


def balanced_with(crowd, a, b):
    """The balanced table of the kinds 0, a, b with 1 for a, b, a < b, and 0 for all other kinds above 0."""
    counts = crowd.counts
    rows = [[Ratio(0)] * crowd.kinds for kind in range(crowd.kinds)]
    entries = [(a, b, Ratio(1)), (0, a, Ratio(counts[b], counts[0])), (b, 0, Ratio(counts[a], counts[0]))]
    for first, second, entry in entries:
        rows[first][second] = entry
        rows[second][first] = -entry
    return tuple([tuple(row) for row in rows])


def balanced(crowd):
    """A base of the balanced tables on kinds."""
    return [balanced_with(crowd, a, b) for a, b in upper_pairs(crowd.kinds) if a > 0]


def even_ways(web, crowd):
    """How many free numbers the leans of even runs have."""
    check_web_crowd(web, crowd)
    more = crowd.kinds - 1
    loops = len(web.ties) - web.size + 1
    return loops * more + (len(pieces(web)) - 1) * (more * (more - 1) // 2)


def kind_lean(web, strengths, kind, kinds):
    """The Lean on the web by which one kind runs round against all others."""
    told = {tie: strength for tie, strength in zip(web.ties, strengths)}
    signs = [1 if a == kind else 0 for a in range(kinds)]
    return Lean(web.size, kinds, [
        [[told.get(pair, Ratio(0)) * (one - other) for other in signs] for one in signs]
        for pair in upper_pairs(web.size)
    ])


def piece_lean(size, piece, table):
    """The Lean with the table from the places of the piece to all others."""
    inside = [1 if place in piece else 0 for place in range(size)]
    return Lean(size, len(table), [
        [[entry * (inside[u] - inside[v]) for entry in row] for row in table] for u, v in upper_pairs(size)
    ])


def even_base(web, crowd):
    """Leans of which the leans of even runs on the web are the sums of multiples."""
    check_web_crowd(web, crowd)
    kinds = crowd.kinds
    first = [kind_lean(web, strengths, kind, kinds) for strengths in circulations(web) for kind in range(1, kinds)]
    second = [piece_lean(web.size, piece, table) for piece in pieces(web)[1:] for table in balanced(crowd)]
    return first + second


def always_stands(web, kinds):
    """True if every even run of so many kinds on the web stands."""
    check_many_kinds(kinds)
    return is_tree(web) and (kinds == 2 or not is_star(web))


def standless(web, crowd):
    """A full even Run on the web that does not stand; None if there is none."""
    base = even_base(web, crowd)
    # An even run stands only where its lean is 0.
    if not base:
        return None
    return run_of(web, base[0])
