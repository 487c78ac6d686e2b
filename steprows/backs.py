"""Runs seen backwards."""

from steprows.checks import check_alike, check_crowd
from steprows.crowds import check_word, exchanged, words_of
from steprows.errors import BadKind, NotLocal
from steprows.lasting import back_rates, lasts
from steprows.ratios import Ratio
from steprows.runs import Run
from steprows.shares import table_in
from steprows.solving import lasting_shares
from steprows.standing import check_full


def back_rate(run, shares, word, u, v):
    """The rate of the step over the tie from the word, seen backwards in these shares."""
    check_crowd(run, shares.crowd)
    here = check_word(shares.crowd, word)
    run.web.number_of(u, v)
    if here[u] == here[v]:
        raise BadKind(here[u])
    if not shares[here]:
        raise NotLocal()
    return (shares[exchanged(here, u, v)] * run.rate(u, v, here[v], here[u])).over(shares[here])


def back_run(run, table):
    """The Run with the rates t(a,b) R(b,a)."""
    return Run(run.web, run.kinds, back_rates(run, table))


def backwards(run, crowd):
    """The backwards as a Run; None if it is not a run of walkers."""
    table = table_in(run.web, lasting_shares(run, crowd))
    if table is None:
        return None
    return back_run(run, table)


def tie_fault(run, shares, tie):
    """Two words with the same unlike kinds at the tie whose back rates over it differ; None if there are none."""
    u, v = tie
    first = {}
    for word in words_of(shares.crowd):
        if word[u] != word[v]:
            early = first.setdefault((word[u], word[v]), word)
            if back_rate(run, shares, early, u, v) != back_rate(run, shares, word, u, v):
                return (early, word)
    return None


def back_fault(run, crowd):
    """A tie and two words that show that the backwards is not a run of walkers; None if it is one."""
    shares = lasting_shares(run, crowd)
    for tie in run.web.ties:
        fault = tie_fault(run, shares, tie)
        if fault is not None:
            return (tie,) + fault
    return None


def backwards_by(run, table, crowd):
    """The backwards of the run by a told table, whose local shares last for the run."""
    check_alike(run, table)
    check_crowd(run, crowd)
    check_full(run)
    if not lasts(run, table, crowd):
        raise NotLocal()
    return back_run(run, table)


def mean_run(run, other):
    """The Run with half the sum of the rates."""
    return (run + other) * Ratio(1, 2)
