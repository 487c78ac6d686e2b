"""Runs with two rates at each tie, and the cuts of their ordered kinds."""

from math import comb

from steprows.checks import (
    check_crowd, check_kinds, check_length, check_many_kinds, check_right, is_below, ratio_row, square_from,
    upper_of, upper_pairs,
)
from steprows.errors import BadKind, NotJoined
from steprows.ratios import Ratio, is_ratio, ratio_of
from steprows.runs import Run
from steprows.ways import is_circulation


def read_speeds(web, speeds):
    """One Ratio of at least 0 for each tie."""
    check_length(speeds, len(web.ties))
    check_right([is_ratio(speed) and ratio_of(speed).top >= 0 for speed in speeds])
    return ratio_row(speeds)


def two_rates(web, kinds, *, ahead, behind):
    """The Run with one rate at each tie where the lesser kind is at its lesser place, and one where it is not."""
    check_many_kinds(kinds)
    pairs = list(zip(read_speeds(web, ahead), read_speeds(web, behind)))
    many = len(upper_pairs(kinds))
    return Run(web, kinds, [square_from(kinds, [there] * many, 0, [back] * many) for there, back in pairs])


def one_rate(row):
    """The number that all entries of the row are; None if they differ."""
    if any([rate != row[0] for rate in row]):
        return None
    return row[0]


def rates_of_cuts(run):
    """The two rates at each tie, those ahead and those behind; None if the run does not have two rates."""
    ahead = [one_rate(upper_of(rates)) for rates in run.rates]
    behind = [one_rate(upper_of(list(zip(*rates)))) for rates in run.rates]
    if any([rate is None for rate in ahead + behind]):
        return None
    return (tuple(ahead), tuple(behind))


def leans_of_cuts(run):
    """The differences of the two rates at each tie."""
    both = rates_of_cuts(run)
    if both is None:
        raise NotJoined()
    return [there - back for there, back in zip(both[0], both[1])]


def cut(kinds, c):
    """The parting into the kinds up to c and the kinds above c."""
    check_many_kinds(kinds)
    if not is_below(c, kinds - 1):
        raise BadKind(c)
    return (tuple(range(c + 1)), tuple(range(c + 1, kinds)))


def cuts_run_round(run):
    """True if the differences of the two rates are a circulation."""
    return is_circulation(run.web, leans_of_cuts(run))


def cut_flow(run, crowd, u, v, a):
    """The flow of kind a from u to v in a full run with two rates whose differences run round."""
    check_crowd(run, crowd)
    number = run.web.number_of(u, v)
    check_kinds(run.kinds, (a,))
    lean = leans_of_cuts(run)[number]
    size = crowd.size
    upto = sum(crowd.counts[:a + 1])
    below = upto - crowd.counts[a]
    flow = lean * Ratio(upto * (size - upto) - below * (size - below), size * (size - 1))
    if u > v:
        return -flow
    return flow


def cut_chance(crowd, c):
    """The chance of each set of places to be the places of the kinds up to c."""
    if not is_below(c, crowd.kinds - 1):
        raise BadKind(c)
    return Ratio(1, comb(crowd.size, sum(crowd.counts[:c + 1])))
