"""Flows: how kinds are carried over the ties."""

from steprows.checks import check_crowd, check_kinds, check_web_crowd, is_ratio_row, is_row_of, ratio_rows
from steprows.crowds import words_of
from steprows.errors import BadFlow
from steprows.leans import Lean, run_of
from steprows.ratios import Ratio, sum_over
from steprows.shapes import pieces
from steprows.ways import balanced, is_circulation, kind_lean, piece_lean


def kind_flow(run, crowd, a):
    """The flow of kind a over each tie u < v with all weights 1."""
    check_crowd(run, crowd)
    check_kinds(run.kinds, (a,))
    part = Ratio(crowd.counts[a], crowd.size * (crowd.size - 1))
    return tuple([
        sum_over([run.lean(u, v, a, b) * count for b, count in enumerate(crowd.counts)]) * part
        for u, v in run.web.ties
    ])


def pair_weights(shares, u, v):
    """For each kind at u and each kind at v the sum of the weights of the words that have both there."""
    sums = [[0] * shares.crowd.kinds for kind in range(shares.crowd.kinds)]
    for word, weight in zip(words_of(shares.crowd), shares.weights):
        sums[word[u]][word[v]] = sums[word[u]][word[v]] + weight
    return sums


def tie_flows(run, shares, u, v):
    """For each kind its flow from u to v in these shares."""
    weights = pair_weights(shares, u, v)
    span = range(run.kinds)
    steps = [[run.rate(u, v, a, b) * weights[a][b] for b in span] for a in span]
    return tuple([
        (sum_over(steps[a]) - sum_over([row[a] for row in steps])).over(shares.bottom) for a in span
    ])


def share_flow(run, shares, u, v, a):
    """The flow of kind a from u to v in these shares."""
    check_crowd(run, shares.crowd)
    run.web.number_of(u, v)
    check_kinds(run.kinds, (a,))
    return tie_flows(run, shares, u, v)[a]


def read_flows(web, crowd, flows):
    """The flows as a tuple of tuples of Ratios."""
    if not is_row_of(flows, crowd.kinds) or not all([is_ratio_row(row, len(web.ties)) for row in flows]):
        raise BadFlow(-1)
    rows = ratio_rows(flows)
    for kind, row in enumerate(rows):
        if not is_circulation(web, row):
            raise BadFlow(kind)
    for number in range(len(web.ties)):
        if sum_over([row[number] for row in rows]) != 0:
            raise BadFlow(-1)
    return rows


def run_of_flows(web, crowd, flows):
    """A full even Run in which each kind has the told flow."""
    check_web_crowd(web, crowd)
    lean = Lean.nothing(crowd.size, crowd.kinds)
    # With these strengths the mean over all walkers is 0, as the flows add
    # up to 0, so that each kind's own strength alone makes its flow.
    for kind, row in enumerate(read_flows(web, crowd, flows)):
        part = Ratio(crowd.size - 1, crowd.counts[kind])
        lean = lean + kind_lean(web, [flow * part for flow in row], kind, crowd.kinds)
    return run_of(web, lean)


def moves_none(run, crowd):
    """True if no kind flows over any tie with all weights 1."""
    return all([flow == 0 for a in range(run.kinds) for flow in kind_flow(run, crowd, a)])


def turning_run(web, crowd):
    """A full even Run on the web that moves no kind and does not stand; None if there is none."""
    check_web_crowd(web, crowd)
    parts = pieces(web)
    tables = balanced(crowd)
    if len(parts) < 2 or len(tables) < 1:
        return None
    return run_of(web, piece_lean(web.size, parts[0], tables[0]))
