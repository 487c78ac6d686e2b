"""Kinds joined: runs, crowds, words and shares in which a lot is one kind."""

from steprows.checks import is_below, is_row
from steprows.crowds import Crowd, spot_of, words_of
from steprows.errors import BadLot, BadWord, NotJoined
from steprows.lots import all_partings, check_parting, check_split, is_joinable, lot_numbers
from steprows.runs import Run
from steprows.shares import Shares


def joins(run, parting):
    """True if each lot of the parting is joinable in the run."""
    return all([is_joinable(run, lot) for lot in check_parting(run.kinds, parting)])


def joining(run):
    """All partings that join in the run."""
    return [parting for parting in all_partings(run.kinds) if joins(run, parting)]


def joined_run(run, parting):
    """The Run whose kinds are the numbers of the lots."""
    lots = check_split(run.kinds, parting)
    if not joins(run, lots):
        raise NotJoined()
    # Joinable lots have the same rates for all of their kinds.
    firsts = [lot[0] for lot in lots]
    return Run(run.web, len(lots), [[[rates[a][b] for b in firsts] for a in firsts] for rates in run.rates])


def joined_crowd(crowd, parting):
    """The Crowd that counts all walkers of a lot together."""
    lots = check_parting(crowd.kinds, parting)
    return Crowd([sum([crowd.counts[kind] for kind in lot]) for lot in lots])


def lot_kinds(parting):
    """How many entries the lots of the parting have together."""
    if not is_row(parting):
        raise BadLot(-1)
    many = sum([len(lot) for lot in parting if is_row(lot)])
    if many < 1 or many > 6:
        raise BadLot(-1)
    return many


def joined_word(parting, word):
    """The tuple of the numbers of the lots of the word's kinds."""
    numbers = lot_numbers(check_parting(lot_kinds(parting), parting))
    if not is_row(word):
        raise BadWord(-1)
    for place, kind in enumerate(word):
        if not is_below(kind, len(numbers)):
            raise BadWord(place)
    return tuple([numbers[kind] for kind in word])


def joined_shares(shares, parting):
    """The Shares of the joined crowd, in which the chances of the words that are read alike are added."""
    crowd = joined_crowd(shares.crowd, parting)
    weights = [0] * crowd.many
    for word, weight in zip(words_of(shares.crowd), shares.weights):
        spot = spot_of(crowd, joined_word(parting, word))
        weights[spot] = weights[spot] + weight
    return Shares(crowd, weights)
