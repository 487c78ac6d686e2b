"""The rules that tell whether a ratio table is kept."""

from steprows.checks import check_crowd, check_kinds, upper_pairs
from steprows.crowds import word_with
from steprows.errors import BadKind, NotKept
from steprows.ratios import product_over
from steprows.shapes import rounds
from steprows.walks import check_ring, round_walk, six_walk


def round_product(table, ring, a, b):
    """The product round the ring of the entries for the kinds a, b."""
    ties = check_ring(table.web, ring)
    check_kinds(table.kinds, (a, b))
    if a == b:
        raise BadKind(b)
    return product_over([table.at(u, v, a, b) for u, v in ties])


def turns_product(table, crowd, u, v, a, b):
    """The product over all walkers' kinds c of the turns of a, b, c."""
    check_crowd(table, crowd)
    return product_over([table.turn(u, v, a, b, kind).to_power(count) for kind, count in enumerate(crowd.counts)])


def triples(kinds):
    """The triples a < b < c of kinds in order."""
    return [(a, b, c) for a, b in upper_pairs(kinds) for c in range(b + 1, kinds)]


def turn_fault(table):
    """Three places and three kinds that break the turn rule; None if there are none."""
    web = table.web
    for v in range(web.size):
        for u in web.near(v):
            for s in [place for place in web.near(v) if place > u]:
                for a, b, c in triples(table.kinds):
                    if table.turn(u, v, a, b, c) != table.turn(v, s, a, b, c):
                        return ((u, v, s), (a, b, c))
    return None


def round_fault(table, crowd):
    """A round and two kinds that break the round rule; None if there are none."""
    for ring in rounds(table.web):
        for a, b in upper_pairs(table.kinds):
            if round_product(table, ring, a, b) != turns_product(table, crowd, ring[0], ring[1], a, b):
                return (ring, (a, b))
    return None


def turns_agree(table):
    """True if the turn rule holds."""
    return turn_fault(table) is None


def is_kept(table, crowd):
    """True if the table is kept for the crowd."""
    return broken(table, crowd) is None


def broken(table, crowd):
    """A closed walk of words of the crowd whose product is not 1; None if the table is kept."""
    check_crowd(table, crowd)
    fault = turn_fault(table)
    if fault is not None:
        places, kinds = fault
        return six_walk(table.web, word_with(crowd, places, kinds), places)
    # Where the turn rule holds, a round-walk's product is that of the
    # round divided by its turns, whatever stands at the other places.
    fault = round_fault(table, crowd)
    if fault is not None:
        ring, kinds = fault
        return round_walk(table.web, word_with(crowd, ring[:2], kinds), ring)
    return None


def check_kept(table, crowd):
    """Raises Unfit unless the table and the crowd fit; NotKept, with a walk that shows it, unless it is kept."""
    walk = broken(table, crowd)
    if walk is not None:
        raise NotKept(walk)
