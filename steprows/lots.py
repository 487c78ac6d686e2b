"""Lots of kinds, partings of the kinds into lots, and lots that no outsider tells apart."""

from steprows.checks import is_below, is_row, picks
from steprows.errors import BadLot, BadNumber
from steprows.ratios import is_int


def check_few_kinds(kinds):
    """Raises BadNumber unless a crowd may have so many kinds."""
    if not is_int(kinds) or kinds < 1 or kinds > 6:
        raise BadNumber("kinds")


def lot_fault(kinds, lot):
    """The position of the first wrong entry of the lot, -1 for a wrong form; None if the lot is right."""
    if not is_row(lot) or len(lot) < 1:
        return -1
    for place, kind in enumerate(lot):
        if not is_below(kind, kinds) or kind in lot[:place]:
            return place
    return None


def check_lot(kinds, lot):
    """The lot as an ascending tuple."""
    check_few_kinds(kinds)
    fault = lot_fault(kinds, lot)
    if fault is not None:
        raise BadLot(fault)
    return tuple(sorted(lot))


def check_parting(kinds, parting):
    """The parting as a tuple of ascending tuples, ordered by their least kinds."""
    check_few_kinds(kinds)
    if not is_row(parting):
        raise BadLot(-1)
    seen = []
    for place, lot in enumerate(parting):
        if lot_fault(kinds, lot) is not None or any([kind in seen for kind in lot]):
            raise BadLot(place)
        seen = seen + list(lot)
    if len(seen) < kinds:
        raise BadLot(-1)
    return tuple(sorted([tuple(sorted(lot)) for lot in parting]))


def check_split(kinds, parting):
    """The parting as check_parting returns it; one lot alone is wrong."""
    lots = check_parting(kinds, parting)
    if len(lots) < 2:
        raise BadLot(-1)
    return lots


def lot_numbers(lots):
    """For each kind the number of its lot in the parting."""
    numbers = {kind: number for number, lot in enumerate(lots) for kind in lot}
    return [numbers[kind] for kind in range(len(numbers))]


def all_partings(kinds):
    """All partings, ordered by the numbers of the lots of the kinds."""
    check_few_kinds(kinds)
    rows = [(0,)]
    for _ in range(kinds - 1):
        rows = [row + (number,) for row in rows for number in range(max(row) + 2)]
    return [
        tuple([
            tuple([kind for kind, number in enumerate(row) if number == lot]) for lot in range(max(row) + 1)
        ])
        for row in rows
    ]


def are_alike_in(rates, lot, c):
    """True if the kind c outside the lot has the same rates with all kinds of the lot."""
    first = lot[0]
    return all([rates[a][c] == rates[first][c] and rates[c][a] == rates[c][first] for a in lot])


def is_joinable(run, lot):
    """True if no kind outside the lot tells the kinds of the lot apart."""
    inside = check_lot(run.kinds, lot)
    outside = [c for c in range(run.kinds) if c not in inside]
    return all([are_alike_in(rates, inside, c) for rates in run.rates for c in outside])


def joinable_lots(run):
    """All joinable lots, shorter ones first, those of one length in order."""
    lots = [lot for length in range(1, run.kinds + 1) for lot in picks(run.kinds, length)]
    return [lot for lot in lots if is_joinable(run, lot)]
