"""Standing: runs that step to and fro equally often over each tie."""

from steprows.checks import check_alike, check_crowd, is_positive, read_uppers, square_from, upper_of
from steprows.crowds import check_listed, check_word, exchanged, words_of
from steprows.errors import BadNumber, NotFull
from steprows.ratios import Ratio, product_over, sum_over
from steprows.rounds import broken, is_kept
from steprows.runs import Run
from steprows.shares import local_shares
from steprows.tables import RatioTable
from steprows.walks import check_walk


def check_full(run):
    """Raises NotFull unless the run is full."""
    if not run.filled:
        raise NotFull()


def table_of_run(run):
    """The RatioTable of the run's ratios."""
    check_full(run)
    span = range(run.kinds)
    return RatioTable(run.web, run.kinds, [
        [[Ratio(1) if a == b else table[a][b].over(table[b][a]) for b in span] for a in span]
        for table in run.rates
    ])


def stands(run, crowd):
    """True if a full run stands for the crowd."""
    check_crowd(run, crowd)
    return is_kept(table_of_run(run), crowd)


def standing_shares(run, crowd):
    """The standing Shares of a full run; None if it does not stand."""
    check_crowd(run, crowd)
    table = table_of_run(run)
    check_listed(crowd)
    if not is_kept(table, crowd):
        return None
    return local_shares(table, crowd)


def uneven_walk(run, crowd):
    """A walk along which the products of the rates forward and back differ; None if the run stands."""
    check_crowd(run, crowd)
    return broken(table_of_run(run), crowd)


def walk_rates(run, words):
    """The product of the rates forward along the walk and that of the rates back."""
    steps = check_walk(run, words)
    forward = product_over([run.rate(u, v, a, b) for u, v, a, b in steps])
    back = product_over([run.rate(u, v, b, a) for u, v, a, b in steps])
    return (forward, back)


def tie_excess(run, shares, word, tie):
    """What comes into the word over the tie less what goes out of it there."""
    u, v = tie
    a = word[u]
    b = word[v]
    if a == b:
        return Ratio(0)
    return shares[exchanged(word, u, v)] * run.rate(u, v, b, a) - shares[word] * run.rate(u, v, a, b)


def excess(run, shares, word):
    """What comes into the word less what goes out of it."""
    check_crowd(run, shares.crowd)
    here = check_word(shares.crowd, word)
    return sum_over([tie_excess(run, shares, here, tie) for tie in run.web.ties])


def is_lasting(run, shares):
    """True if every word has excess 0."""
    check_crowd(run, shares.crowd)
    return all([excess(run, shares, word) == 0 for word in words_of(shares.crowd)])


def is_standing(run, shares):
    """True if no tie is off."""
    return len(ties_off(run, shares)) == 0


def ties_off(run, shares):
    """The ties over which some word is not stepped to and fro equally often."""
    check_crowd(run, shares.crowd)
    words = words_of(shares.crowd)
    return tuple([
        tie for tie in run.web.ties if any([tie_excess(run, shares, word, tie) != 0 for word in words])
    ])


def quickened(run, u, v, number=2):
    """The Run with all rates of the tie multiplied by the number."""
    quick = run.web.number_of(u, v)
    if not is_positive(number):
        raise BadNumber("number")
    rates = list(run.rates)
    rates[quick] = [[rate * number for rate in row] for row in run.rates[quick]]
    return Run(run.web, run.kinds, rates)


def standing_run(table, speeds):
    """The full run with the ratios of the table and the speeds as its rates for a < b."""
    rows = read_uppers(table.web, table.kinds, speeds)
    rates = []
    for row, entries in zip(rows, table.entries):
        lower = [speed.over(entry) for speed, entry in zip(row, upper_of(entries))]
        rates.append(square_from(table.kinds, row, 0, lower))
    return Run(table.web, table.kinds, rates)


def speeds_of(run, table):
    """The speeds with which standing_run of the table is the run; None if there are none."""
    check_alike(run, table)
    if table_of_run(run) != table:
        return None
    return tuple([upper_of(rates) for rates in run.rates])


def paced(run, factors):
    """The Run with the rates of a, b and b, a both multiplied by the factor of the tie and the pair."""
    rows = read_uppers(run.web, run.kinds, factors)
    rates = []
    for row, table in zip(rows, run.rates):
        factor = square_from(run.kinds, row, 0, row)
        rates.append([
            [rate * pace for rate, pace in zip(rate_row, pace_row)] for rate_row, pace_row in zip(table, factor)
        ])
    return Run(run.web, run.kinds, rates)
