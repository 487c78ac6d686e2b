"""Ties at which kinds are balanced or level, and what lasts on loose webs."""

from steprows.checks import check_alike, check_crowd, check_kinds, upper_pairs
from steprows.errors import BadKind, NotLocal, NotLoose, NotRoomy
from steprows.flows import tie_flows
from steprows.lasting import flow_function, lasts
from steprows.pairs import entry_of
from steprows.ratios import sum_over
from steprows.rounds import check_kept, triples
from steprows.shapes import is_loose, parts_over
from steprows.shares import local_shares


def sort_at(flow, table, places, kinds):
    """Whether the kinds at the places are balanced, level, both or neither."""
    u, v = places
    a, b = kinds
    is_still = entry_of(flow, u, v, a, b) == 0
    is_level = table.at(u, v, a, b) == 1
    if is_still and is_level:
        return "both"
    if is_still:
        return "balanced"
    if is_level:
        return "level"
    return "neither"


def tie_sort(run, table, u, v, a, b):
    """Whether two kinds are balanced at the tie, level there, both or neither."""
    flow = flow_function(run, table)
    run.web.number_of(u, v)
    check_kinds(run.kinds, (a, b))
    if a == b:
        raise BadKind(b)
    return sort_at(flow, table, (u, v), (a, b))


def tie_steps(run, table, u, v):
    """The steps over the tie, read from u to v; None if there are none."""
    flow = flow_function(run, table)
    run.web.number_of(u, v)
    span = range(run.kinds)
    # The first step is 0, so each other one is its entry with kind 0.
    steps = tuple([entry_of(flow, u, v, a, 0) for a in span])
    if all([entry_of(flow, u, v, a, b) == steps[a] - steps[b] for a in span for b in span]):
        return steps
    return None


def check_loose(run, table, crowd):
    """Raises the first error among the premises of lasts_loose and loose_fault."""
    check_alike(run, table)
    check_crowd(run, crowd)
    if not is_loose(run.web):
        raise NotLoose()
    if not crowd.roomy:
        raise NotRoomy()
    check_kept(table, crowd)


def sort_fault(flow, run, table):
    """A tie and two kinds that are neither balanced nor level there; None if there are none."""
    for tie in run.web.ties:
        for kinds in upper_pairs(run.kinds):
            if sort_at(flow, table, tie, kinds) == "neither":
                return ("neither", tie, kinds)
    return None


def steps_fault(flow, run):
    """A tie and three kinds that show that it has no steps; None if there are none."""
    for u, v in run.web.ties:
        for a, b, c in triples(run.kinds):
            if entry_of(flow, u, v, a, c) != entry_of(flow, u, v, a, b) + entry_of(flow, u, v, b, c):
                return ("steps", (u, v), (a, b, c))
    return None


def near_fault(flow, run):
    """A place and two kinds whose sum over the places near it is not 0; None if there are none."""
    for u in range(run.web.size):
        for a, b in upper_pairs(run.kinds):
            if sum_over([entry_of(flow, u, v, a, b) for v in run.web.near(u)]) != 0:
                return ("round", (u,), (a, b))
    return None


def loose_fault(run, table, crowd):
    """What shows that the table's local shares do not last for the run; None if they last."""
    check_loose(run, table, crowd)
    flow = flow_function(run, table)
    # Each search presumes that the one before it found nothing: then an
    # exchange of two kinds only turns the sign of what is looked at.
    fault = sort_fault(flow, run, table)
    if fault is None:
        fault = steps_fault(flow, run)
    if fault is None:
        fault = near_fault(flow, run)
    return fault


def lasts_loose(run, table, crowd):
    """True if the table's local shares last for the run."""
    return loose_fault(run, table, crowd) is None


def no_flow(run, table, crowd):
    """True if no kind flows over any tie in the table's local shares."""
    check_alike(run, table)
    shares = local_shares(table, crowd)
    if not lasts(run, table, crowd):
        raise NotLocal()
    return all([flow == 0 for u, v in run.web.ties for flow in tie_flows(run, shares, u, v)])


def flow_pieces(run, table):
    """The parts into which the places are joined by the ties with an entry of the flow function that is not 0."""
    flow = flow_function(run, table)
    span = range(run.kinds)
    ties = [
        (u, v) for u, v in run.web.ties if any([entry_of(flow, u, v, a, b) != 0 for a in span for b in span])
    ]
    return parts_over(run.web.size, ties)
