"""The lasting shares of a full run, solved for."""

from steprows.checks import check_crowd
from steprows.crowds import Crowd, exchanged, words_of
from steprows.errors import TooMany
from steprows.ratios import Ratio, sum_over, whole
from steprows.shares import Shares
from steprows.standing import check_full


def step_rates(run, crowd):
    """The rates from each word to each word, in order."""
    words = words_of(crowd)
    spots = {word: spot for spot, word in enumerate(words)}
    rows = [[Ratio(0)] * len(words) for word in words]
    for spot, word in enumerate(words):
        for u, v in run.web.ties:
            rows[spot][spots[exchanged(word, u, v)]] = run.rate(u, v, word[u], word[v])
    return rows


def settled(rows):
    """Numbers in the proportions of the lasting chances for these rates, of which the diagonal counts for nothing."""
    last = len(rows) - 1
    if last == 0:
        return [Ratio(1)]
    # Each visit to the last word is passed over: a step there and the step
    # onward make one step.
    out = sum_over(rows[last][:last])
    share = [row[last].over(out) for row in rows[:last]]
    numbers = settled([
        [rows[i][j] + share[i] * rows[last][j] for j in range(last)] for i in range(last)
    ])
    return numbers + [sum_over([number * part for number, part in zip(numbers, share)])]


def check_solved(crowd):
    """Raises TooMany if the crowd has more words than lasting chances are solved for."""
    if crowd.many > Crowd.MOST_SOLVED:
        raise TooMany(crowd.many)


def lasting_shares(run, crowd):
    """The lasting Shares of a full run."""
    check_crowd(run, crowd)
    check_full(run)
    check_solved(crowd)
    return Shares(crowd, whole(settled(step_rates(run, crowd))))
