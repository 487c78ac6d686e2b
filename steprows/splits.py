"""The standing and the turning part of a run by a ratio table."""

from steprows.checks import check_alike, check_length, check_right, is_square, ratio_rows
from steprows.errors import BadNumber, Unfit
from steprows.lasting import back_rates
from steprows.ratios import Ratio, is_ratio
from steprows.runs import Run
from steprows.standing import check_full


def combined(tables, others, number):
    """The entries of the first tables on ties plus the number times those of the others."""
    return [
        [[one + other * number for one, other in zip(row, other_row)] for row, other_row in zip(table, other_table)]
        for table, other_table in zip(tables, others)
    ]


def is_some_below(tables):
    """True if some entry is below 0."""
    return any([entry.top < 0 for table in tables for row in table for entry in row])


def least_of(ratios):
    """The least one of a list of ratios; None if there are none."""
    least = None
    for one in ratios:
        if least is None or (one - least).top < 0:
            least = one
    return least


class Split:
    """A full run as the sum of a run that has the ratios of a table and of what turns back by it."""

    def __init__(self, run, table):
        check_alike(run, table)
        check_full(run)
        half = Ratio(1, 2)
        back = back_rates(run, table)
        self.standing = Run(run.web, run.kinds, combined(run.rates, back, 1)) * half
        self.turning = tuple([ratio_rows(part) for part in combined(run.rates, self.standing.rates, -1)])
        self.ratio_table = table

    @property
    def still(self):
        """True if the turning part is 0."""
        return all([entry == 0 for table in self.turning for row in table for entry in row])

    def as_run(self):
        """The run that was split."""
        return self.pushed(1)

    def pushed(self, number):
        """The Run of the standing part plus the number times the turning part."""
        if not is_ratio(number):
            raise BadNumber("number")
        rates = combined(self.standing.rates, self.turning, number)
        if is_some_below(rates):
            raise BadNumber("number")
        return Run(self.standing.web, self.standing.kinds, rates)

    def ends(self):
        """The least and the greatest number for which there is a pushed run; None, None if the turning part is 0."""
        high = least_of([
            rate.over(-turn)
            for table, turn_table in zip(self.standing.rates, self.turning)
            for row, turn_row in zip(table, turn_table) for rate, turn in zip(row, turn_row) if turn.top < 0
        ])
        if high is None:
            return (None, None)
        # The rates back reach 0 at the negative number, as the turning part turns back.
        return (-high, high)


def turns_back(web, table, turning):
    """True if turning turns back by the table."""
    if web != table.web:
        raise Unfit()
    check_length(turning, len(web.ties))
    check_right([is_square(part, table.kinds) for part in turning])
    span = range(table.kinds)
    return all([
        entries[a][b] * part[b][a] == -part[a][b]
        for entries, part in zip(table.entries, turning) for a in span for b in span
    ])


def is_turning(part, kinds):
    """True for a table of ratios with 0 for alike kinds."""
    return is_square(part, kinds) and all([part[a][a] == 0 for a in range(kinds)])


def joined_split(standing, turning):
    """The Run with the rates of the run standing plus the entries of turning."""
    check_length(turning, len(standing.web.ties))
    check_right([is_turning(part, standing.kinds) for part in turning])
    rates = combined(standing.rates, turning, 1)
    if is_some_below(rates):
        raise BadNumber("turning")
    return Run(standing.web, standing.kinds, rates)
