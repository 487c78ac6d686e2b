"""How evenly the walkers of a lot are spread over their places."""

from steprows.checks import check_crowd
from steprows.crowds import words_of
from steprows.errors import BadLot, NotJoined
from steprows.evens import turn_sum
from steprows.leans import lean_of
from steprows.lots import check_lot, is_joinable
from steprows.ratios import sum_over
from steprows.rounds import triples
from steprows.standing import check_full


def spread_sums(run, crowd, lot):
    """For each tie and each kind of the lot the sum of its leans to the walkers of the lot."""
    check_crowd(run, crowd)
    inside = check_lot(run.kinds, lot)
    return [
        (u, v, a, sum_over([run.lean(u, v, a, b) * crowd.counts[b] for b in inside]))
        for u, v in run.web.ties for a in inside
    ]


def check_inner_lot(run, crowd, lot):
    """The lot as an ascending tuple, after checking the premises of spreads and spread_fault."""
    check_crowd(run, crowd)
    inside = check_lot(run.kinds, lot)
    if len(inside) in (1, run.kinds):
        raise BadLot(-1)
    check_full(run)
    if not is_joinable(run, inside):
        raise NotJoined()
    return inside


def inner_turn_fault(run, lot):
    """A turn sum of kinds of the lot that is not 0; None if there is none."""
    lean = lean_of(run)
    for places in triples(run.web.size):
        for i, j, k in triples(len(lot)):
            kinds = (lot[i], lot[j], lot[k])
            if turn_sum(lean, places, kinds) != 0:
                return ("turn", places, kinds)
    return None


def spread_fault(run, crowd, lot):
    """A sum that shows that the lasting shares are not spread over the lot; None if they are."""
    inside = check_inner_lot(run, crowd, lot)
    for u, v, a, total in spread_sums(run, crowd, inside):
        if total != 0:
            return ("sum", (u, v), (a,))
    return inner_turn_fault(run, inside)


def spreads(run, crowd, lot):
    """True if the lasting shares of the run are spread over the lot."""
    return spread_fault(run, crowd, lot) is None


def is_spread(shares, lot):
    """True if words that differ only inside the lot are equally likely in these shares."""
    inside = check_lot(shares.crowd.kinds, lot)
    found = {}
    for word, weight in zip(words_of(shares.crowd), shares.weights):
        # -1 stands for any kind of the lot.
        outline = tuple([-1 if kind in inside else kind for kind in word])
        if found.setdefault(outline, weight) != weight:
            return False
    return True
