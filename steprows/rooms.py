"""Rooms: a run and a crowd that are changed by deeds, which can be undone and tried out."""

from steprows.backs import backwards
from steprows.checks import check_crowd, is_row, ratio_rows
from steprows.crowds import Crowd
from steprows.errors import BadNumber, NotLocal
from steprows.flows import share_flow
from steprows.joins import joined_crowd, joined_run
from steprows.lasting import lasts
from steprows.lots import check_parting
from steprows.ratios import ratio_of
from steprows.solving import lasting_shares
from steprows.standing import quickened
from steprows.verdicts import run_with_tie, run_without, verdict

DEEDS = {"settle": 1, "quicken": 3, "lay": 3, "cut_tie": 2, "join_kinds": 1, "turn": 0}


class Moment:
    """The run and the crowd after some deeds, the deeds, and the moment before the last one."""

    def __init__(self, run, crowd, done, before):
        self.run = run
        self.crowd = crowd
        self.done = done
        self.before = before


class Trial:
    """For a with statement: at its end the room is as it was at its beginning."""

    def __init__(self, room):
        self.room = room
        self.began = None

    def __enter__(self):
        self.began = self.room.now
        return self.room

    def __exit__(self, kind, value, trace):
        room = self.room
        room.now = self.began


def is_deed(thing):
    """True for a list or tuple of a deed's name and as many things as its method takes."""
    if not is_row(thing) or len(thing) < 1 or not isinstance(thing[0], str):
        return False
    return DEEDS.get(thing[0]) == len(thing) - 1


def do_deed(room, deed):
    """Does the deed in the room."""
    name, *things = deed
    if name == "settle":
        room.settle(*things)
    elif name == "quicken":
        room.quicken(*things)
    elif name == "lay":
        room.lay(*things)
    elif name == "cut_tie":
        room.cut_tie(*things)
    elif name == "join_kinds":
        room.join_kinds(*things)
    else:
        room.turn()


class Room:
    """A run and a crowd that fit, and the deeds that led to them."""

    def __init__(self, run, crowd):
        check_crowd(run, crowd)
        self.now = Moment(run, crowd, (), None)

    @property
    def deeds(self):
        """All deeds noted, the oldest first."""
        return self.now.done

    def note(self, run, crowd, deed):
        """Notes the deed that led to this run and this crowd, and returns it."""
        self.now = Moment(run, crowd, self.now.done + (deed,), self.now)
        return deed

    def current(self):
        """The run and the crowd that are there now."""
        return (self.now.run, self.now.crowd)

    def settle(self, counts):
        """A crowd of these counts takes the place of the crowd."""
        run, _ = self.current()
        crowd = Crowd(counts)
        check_crowd(run, crowd)
        return self.note(run, crowd, ("settle", crowd.counts))

    def quicken(self, u, v, number):
        """All rates of the tie are multiplied by the number."""
        run, crowd = self.current()
        quick = quickened(run, u, v, number)
        return self.note(quick, crowd, ("quicken", u, v, ratio_of(number)))

    def lay(self, u, v, table):
        """The run gets one tie more, with the rates of the table."""
        run, crowd = self.current()
        more = run_with_tie(run, u, v, table)
        return self.note(more, crowd, ("lay", u, v, ratio_rows(table)))

    def cut_tie(self, u, v):
        """The run loses a tie."""
        run, crowd = self.current()
        return self.note(run_without(run, u, v), crowd, ("cut_tie", u, v))

    def join_kinds(self, parting):
        """The kinds of each lot become one kind."""
        run, crowd = self.current()
        joined = joined_run(run, parting)
        return self.note(joined, joined_crowd(crowd, parting), ("join_kinds", check_parting(run.kinds, parting)))

    def turn(self):
        """The run's backwards takes its place."""
        run, crowd = self.current()
        turned = backwards(run, crowd)
        if turned is None:
            raise NotLocal()
        return self.note(turned, crowd, ("turn",))

    def undo(self):
        """Takes the last deed back, and returns it."""
        if not self.now.done:
            raise BadNumber("deeds")
        deed = self.now.done[-1]
        self.now = self.now.before
        return deed

    def ask(self, question, *things):
        """The answer to the question about the run and the crowd."""
        run, crowd = self.current()
        if question == "word" and len(things) == 0:
            return verdict(run, crowd).word
        if question == "flow" and len(things) == 3:
            u, v, a = things
            return share_flow(run, lasting_shares(run, crowd), u, v, a)
        if question == "lasts" and len(things) == 1:
            return lasts(run, things[0], crowd)
        raise BadNumber("question")

    def tried(self, deeds):
        """The word of the verdict after these deeds, which are not kept."""
        if not is_row(deeds) or not all([is_deed(deed) for deed in deeds]):
            raise BadNumber("deeds")
        with self.trial() as room:
            for deed in deeds:
                do_deed(room, deed)
            return room.ask("word")

    def trial(self):
        """An object for one with statement, at the end of which the room is as at its beginning."""
        return Trial(self)
