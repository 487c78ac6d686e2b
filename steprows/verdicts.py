"""Verdicts: what a full run does with a crowd, told in one word."""

from steprows.backs import back_run
from steprows.checks import check_crowd
from steprows.errors import BadTable
from steprows.evens import is_even
from steprows.forms import form_of
from steprows.joins import joined_crowd, joined_run, joining
from steprows.runs import Run, are_rates
from steprows.shares import Shares, table_in
from steprows.solving import check_solved, lasting_shares
from steprows.standing import check_full, excess, standing_shares, stands, table_of_run
from steprows.tables import RatioTable


class Verdict:
    """A full run, a crowd and the lasting shares, of which nothing more is told."""

    def __init__(self, run, crowd, shares):
        self.run = run
        self.crowd = crowd
        self.shares = shares

    @property
    def word(self):
        """The word of the verdict."""
        return "other"

    def table(self):
        """The RatioTable of the shares; None if they are not local."""
        return None

    def turned_run(self):
        """The backwards of the run; None if it is not a run of walkers."""
        return None

    def check(self, word):
        """What comes into the word less what goes out of it."""
        return excess(self.run, self.shares, word)


class Local(Verdict):
    """The lasting shares are local."""

    @property
    def word(self):
        """The word of the verdict."""
        return "local"

    def table(self):
        """The RatioTable of the shares."""
        return table_in(self.run.web, self.shares)

    def turned_run(self):
        """The backwards of the run."""
        return back_run(self.run, self.table())


class Even(Local):
    """All words are equally likely."""

    @property
    def word(self):
        """The word of the verdict."""
        return "even"

    def table(self):
        """The flat RatioTable."""
        return RatioTable.even(self.run.web, self.run.kinds)


class Stands(Local):
    """The run stands."""

    @property
    def word(self):
        """The word of the verdict."""
        return "stands"

    def table(self):
        """The RatioTable of the run's ratios."""
        return table_of_run(self.run)

    def turned_run(self):
        """The run itself, which is its own backwards."""
        return self.run

    def form(self):
        """The told form of the table."""
        return form_of(self.table(), self.crowd)


def check_told(run, crowd):
    """Raises the first error among the premises of verdict."""
    check_crowd(run, crowd)
    check_full(run)
    check_solved(crowd)


def verdict(run, crowd):
    """The verdict of a full run and a crowd, the first one that applies."""
    check_told(run, crowd)
    # Only where neither applies must the shares be solved for.
    if stands(run, crowd):
        return Stands(run, crowd, standing_shares(run, crowd))
    if is_even(run, crowd):
        return Even(run, crowd, Shares.even(crowd))
    shares = lasting_shares(run, crowd)
    if table_in(run.web, shares) is not None:
        return Local(run, crowd, shares)
    return Verdict(run, crowd, shares)


def quick_verdict(run, crowd):
    """The word "stands" or "even", or "unknown" if neither applies; it lists no words."""
    if stands(run, crowd):
        return "stands"
    if is_even(run, crowd):
        return "even"
    return "unknown"


def joined_verdicts(run, crowd):
    """For each parting into two lots or more that joins, the word of the joined run and crowd."""
    check_told(run, crowd)
    return [
        (parting, verdict(joined_run(run, parting), joined_crowd(crowd, parting)).word)
        for parting in joining(run) if len(parting) > 1
    ]


def run_with_tie(run, u, v, table):
    """The Run with one tie more, and the rates of the table there, kinds at u first."""
    web = run.web + (u, v)
    number = web.number_of(u, v)
    if not are_rates(table, run.kinds):
        raise BadTable(number)
    rates = list(run.rates)
    if u < v:
        rates.insert(number, table)
    else:
        rates.insert(number, list(zip(*table)))
    return Run(web, run.kinds, rates)


def run_without(run, u, v):
    """The Run with one tie less."""
    web = run.web - (u, v)
    number = run.web.number_of(u, v)
    return Run(web, run.kinds, run.rates[:number] + run.rates[number + 1:])
