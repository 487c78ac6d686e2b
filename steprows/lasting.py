"""Whether local shares last for a run, told without listing words."""

from steprows.checks import check_alike, check_crowd, upper_pairs
from steprows.crowds import words_of
from steprows.pairs import PairSum, zero_tables
from steprows.rounds import check_kept
from steprows.small import vanishes


def table_less(table, other):
    """The entries of the one m by m table less those of the other."""
    return [[one - less for one, less in zip(row, less_row)] for row, less_row in zip(table, other)]


def back_rates(run, table):
    """For each tie the entries t(a,b) R(b,a)."""
    span = range(run.kinds)
    return [
        [[entries[a][b] * rates[b][a] for b in span] for a in span]
        for entries, rates in zip(table.entries, run.rates)
    ]


def flow_function(run, table):
    """The PairSum t(a,b) R(b,a) - R(a,b) at the ties, 0 elsewhere."""
    check_alike(run, table)
    web = run.web
    tables = zero_tables(web.size, run.kinds)
    pairs = upper_pairs(web.size)
    for tie, back, rates in zip(web.ties, back_rates(run, table), run.rates):
        tables[pairs.index(tie)] = table_less(back, rates)
    return PairSum(web.size, run.kinds, tables)


def lasts(run, table, crowd):
    """True if the local shares of the table are lasting for the run."""
    check_alike(run, table)
    check_kept(table, crowd)
    return vanishes(flow_function(run, table), crowd)


def flow_fault(run, table, crowd):
    """A word at which the pair sum of the flow function is not 0; None if there is none."""
    check_alike(run, table)
    check_crowd(run, crowd)
    words = words_of(crowd)
    check_kept(table, crowd)
    flow = flow_function(run, table)
    for word in words:
        if flow(word) != 0:
            return word
    return None
