"""The free numbers of local shares, and one tie more."""

from steprows.checks import check_crowd, check_length, check_right, check_web_crowd, is_positive, ratio_row, upper_pairs
from steprows.errors import Unfit
from steprows.forms import form_of, order_form, product_form, step_table
from steprows.ratios import Ratio
from steprows.rounds import check_kept, triples
from steprows.shapes import tree_ties
from steprows.tables import RatioTable


def free_places(web, kinds):
    """What the free numbers are, in order: tuples (u, v, a, b) of places and kinds."""
    if web.along is None:
        return [(u, v, 0, b) for u, v in tree_ties(web) for b in range(1, kinds)]
    steps = list(zip(web.along, web.along[1:]))
    first = [(web.along[0], web.along[1], a, b) for a, b in upper_pairs(kinds)]
    return first + [(u, v, 0, b) for u, v in steps[1:] for b in range(1, kinds)]


def free_numbers(web, crowd):
    """How many free numbers local shares have."""
    check_web_crowd(web, crowd)
    return len(free_places(web, crowd.kinds))


def free_table(web, crowd, numbers):
    """The kept RatioTable with these free numbers."""
    check_web_crowd(web, crowd)
    kinds = crowd.kinds
    places = free_places(web, kinds)
    check_length(numbers, len(places))
    check_right([is_positive(number) for number in numbers])
    told = {place: number for place, number in zip(places, ratio_row(numbers))}
    if web.along is None:
        return product_form(web, crowd, {tie: step_row(told, tie, kinds) for tie in tree_ties(web)}).table()
    upper = [told[place] for place in places[:len(upper_pairs(kinds))]]
    steps = [step_row(told, tie, kinds) for tie in zip(web.along, web.along[1:])]
    return order_form(web, crowd, upper, steps).table()


def step_row(told, tie, kinds):
    """The row of t(a,0) at the tie, for the told numbers t(0,a)."""
    u, v = tie
    return [Ratio(1)] + [told[(u, v, 0, b)].inverse() for b in range(1, kinds)]


def free_of(table, crowd):
    """The free numbers of a kept table."""
    check_kept(table, crowd)
    return tuple([table.at(u, v, a, b) for u, v, a, b in free_places(table.web, table.kinds)])


def all_local(crowd):
    """True if all shares of the crowd with positive weights are local, on any web that fits."""
    if crowd.size < 3 or crowd.kinds < 2:
        raise Unfit()
    if crowd.kinds == 2:
        return 1 in crowd.counts
    return crowd.kinds == 3 and crowd.size == 3


def turns_are_one(table):
    """True if all turns of the table are 1."""
    return all([
        table.turn(u, v, a, b, c) == 1 for u, v in table.web.ties for a, b, c in triples(table.kinds)
    ])


def spread_to(table, crowd, u, v):
    """The RatioTable of the same local shares on the web with the tie u-v more; None if there is none."""
    check_crowd(table, crowd)
    web = table.web + (u, v)
    form = form_of(table, crowd)
    if web.along is None and not turns_are_one(table):
        return None
    tie = (min(u, v), max(u, v))
    number = web.number_of(u, v)
    entries = list(table.entries)
    entries.insert(number, step_table(form, tie[0], tie[1]))
    return RatioTable(web, table.kinds, entries)
