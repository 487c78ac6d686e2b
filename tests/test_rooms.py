"""[141]: rooms, their deeds, what is asked there, and what is tried out."""

import unittest

from steprows.backs import backwards
from steprows.classes import class_table, classes_run
from steprows.crowds import Crowd
from steprows.cuts import two_rates
from steprows.errors import StepError
from steprows.flows import share_flow
from steprows.joins import joined_crowd, joined_run
from steprows.lasting import lasts
from steprows.ratios import Ratio
from steprows.rooms import Room
from steprows.runs import Run
from steprows.shares import Shares
from steprows.solving import lasting_shares
from steprows.standing import quickened, table_of_run
from steprows.tables import RatioTable
from steprows.verdicts import run_with_tie, run_without, verdict
from steprows.webs import Web
from tests.common import all_ratios, even_run, some_classes, some_rows, some_run, told

RING = two_rates(Web.ring(4), 3, ahead=[2, 1, 2, 2], behind=[1, 2, 1, 1])
CROWD = Crowd((1, 1, 2))
TABLE = [[0, 3, 3], [1, 0, 3], [1, 1, 0]]


def state(room):
    return room.current(), room.deeds


class TestDeeds(unittest.TestCase):

    def check_deed(self, room, deed, expected, run, crowd):
        before = room.deeds
        self.assertIsInstance(deed, tuple)
        self.assertEqual(deed, expected)
        self.assertEqual(room.current(), (run, crowd))
        self.assertIsInstance(room.current(), tuple)
        self.assertIsInstance(room.deeds, tuple)
        self.assertEqual(before[-1], deed)

    def test_each_one(self):
        room = Room(RING, CROWD)
        self.assertEqual(state(room), ((RING, CROWD), ()))
        deed = room.settle([2, 1, 1])
        self.check_deed(room, deed, ("settle", (2, 1, 1)), RING, Crowd((2, 1, 1)))
        run, crowd = RING, Crowd((2, 1, 1))
        deed = room.quicken(3, 0, 5)
        run = quickened(run, 0, 3, 5)
        self.check_deed(room, deed, ("quicken", 3, 0, Ratio(5)), run, crowd)
        self.assertIsInstance(deed[3], Ratio)
        deed = room.lay(2, 0, TABLE)
        run = run_with_tie(run, 2, 0, TABLE)
        self.check_deed(room, deed, ("lay", 2, 0, tuple(tuple(row) for row in TABLE)), run, crowd)
        self.assertTrue(isinstance(deed[3][1], tuple) and all_ratios(deed[3]))
        deed = room.cut_tie(1, 0)
        run = run_without(run, 0, 1)
        self.check_deed(room, deed, ("cut_tie", 1, 0), run, crowd)
        deed = room.join_kinds([[2], [1, 0]])
        run, crowd = joined_run(run, [[0, 1], [2]]), joined_crowd(crowd, [[0, 1], [2]])
        self.check_deed(room, deed, ("join_kinds", ((0, 1), (2,))), run, crowd)
        deed = room.turn()
        run = backwards(run, crowd)
        self.check_deed(room, deed, ("turn",), run, crowd)
        self.assertEqual([one[0] for one in room.deeds], ["settle", "quicken", "lay", "cut_tie", "join_kinds", "turn"])

    def test_turned_run_is_another_one(self):
        run = even_run(Web.ring(3), 2)
        room = Room(run, Crowd((2, 1)))
        room.turn()
        self.assertNotEqual(room.current()[0], run)
        room.turn()
        self.assertEqual(room.current(), (run, Crowd((2, 1))))
        self.assertEqual(room.deeds, (("turn",), ("turn",)))

    def test_arguments_are_kept_as_they_were(self):
        room = Room(RING, CROWD)
        counts, table, parting = [2, 1, 1], [list(row) for row in TABLE], [[2], [1, 0]]
        room.settle(counts)
        room.lay(0, 2, table)
        room.join_kinds(parting)
        counts.clear()
        table[0][1] = 99
        parting[0].clear()
        self.assertEqual(room.deeds[0], ("settle", (2, 1, 1)))
        self.assertEqual(room.deeds[1][3][0][1], 3)
        self.assertEqual(room.deeds[2], ("join_kinds", ((0, 1), (2,))))

    def test_a_hundred_deeds_and_back(self):
        room = Room(RING, CROWD)
        states = [state(room)]
        for number in range(100):
            if number % 3 == 0:
                room.quicken(0, 1, Ratio(number + 2, number + 1))
            elif number % 3 == 1:
                room.settle((1, 2, 1) if number % 2 else (2, 1, 1))
            else:
                room.quicken(2, 1, number)
            states.append(state(room))
        self.assertEqual(len(room.deeds), 100)
        last = room.deeds
        for number in range(99, -1, -1):
            self.assertEqual(room.undo(), last[number])
            self.assertEqual(state(room), states[number])
        self.assertEqual(told(room.undo), ("BadNumber", "deeds"))
        self.assertEqual(state(room), ((RING, CROWD), ()))

    def test_undo_each_one(self):
        room = Room(RING, CROWD)
        self.assertEqual(told(room.undo), ("BadNumber", "deeds"))
        for call in (
            lambda: room.settle((2, 1, 1)), lambda: room.quicken(0, 1, 3), lambda: room.lay(0, 2, TABLE),
            lambda: room.cut_tie(0, 1), lambda: room.join_kinds([[0, 1], [2]]), lambda: room.turn(),
        ):
            before = state(room)
            deed = call()
            self.assertEqual(room.undo(), deed)
            self.assertEqual(state(room), before)
            if deed[0] != "turn":
                call()

    def test_undo_and_another_deed(self):
        room = Room(RING, CROWD)
        room.settle((2, 1, 1))
        room.undo()
        room.quicken(0, 1, 2)
        self.assertEqual(room.deeds, (("quicken", 0, 1, 2),))

    def test_rooms_do_not_share(self):
        first, second = Room(RING, CROWD), Room(RING, CROWD)
        first.settle((2, 1, 1))
        self.assertEqual(second.deeds, ())
        self.assertEqual(second.current(), (RING, CROWD))


class TestWrongDeeds(unittest.TestCase):

    def test_rooms_that_do_not_fit(self):
        for crowd in (Crowd((2, 2)), Crowd((1, 1, 1)), Crowd((2, 2, 1)), Crowd((4,))):
            self.assertEqual(told(Room, RING, crowd), ("Unfit",))

    def test_each_error_changes_nothing(self):
        room = Room(RING, CROWD)
        room.quicken(0, 1, 2)
        before = state(room)
        for call, things, wrong in [
            (room.settle, (None,), ("BadCounts", -1)), (room.settle, ([2, 0, 1],), ("BadCounts", 1)),
            (room.settle, ((8, 1),), ("BadCounts", -2)), (room.settle, ((2, 2),), ("Unfit",)),
            (room.settle, ((1, 1, 1),), ("Unfit",)), (room.settle, ((1, 1, 1, 1),), ("Unfit",)),
            (room.quicken, (4, 9, None), ("BadPlace", 4)), (room.quicken, (0, 2, None), ("NoTie", 0, 2)),
            (room.quicken, (0, 1, 0), ("BadNumber", "number")), (room.quicken, (0, 1, None), ("BadNumber", "number")),
            (room.lay, (0, 4, None), ("BadPlace", 4)), (room.lay, (1, 0, None), ("BadWeb", 0)),
            (room.lay, (2, 0, None), ("BadTable", 1)), (room.lay, (1, 3, [[0, 1, 1], [1, 0, 1], [1, 1, 1]]), ("BadTable", 3)),
            (room.cut_tie, (0, 9), ("BadPlace", 9)), (room.cut_tie, (2, 0), ("NoTie", 2, 0)),
            (room.join_kinds, (None,), ("BadLot", -1)), (room.join_kinds, ([[0], [1, 0]],), ("BadLot", 1)),
            (room.join_kinds, ([[0, 1, 2]],), ("BadLot", -1)), (room.join_kinds, ([[0, 2], [1]],), ("NotJoined",)),
        ]:
            self.assertEqual(told(call, *things), wrong)
            self.assertEqual(state(room), before)
        room.cut_tie(0, 1)
        self.assertEqual(told(room.cut_tie, 0, 3), ("BadWeb", -2))

    def test_turns_that_raise(self):
        for run, crowd, wrong in [
            (some_run(Web.ring(4), 3, zeros=True), Crowd((2, 1, 1)), ("NotFull",)),
            (some_run(Web.ring(7), 3, zeros=True), Crowd((5, 1, 1)), ("NotFull",)),
            (some_run(Web.ring(7), 3), Crowd((5, 1, 1)), ("TooMany", 42)),
            (some_run(Web.ring(4), 3), Crowd((2, 1, 1)), ("NotLocal",)),
        ]:
            room = Room(run, crowd)
            self.assertEqual(told(room.turn), wrong)
            self.assertEqual(state(room), ((run, crowd), ()))


class TestQuestions(unittest.TestCase):

    def test_words(self):
        for run, crowd in ((RING, CROWD), (even_run(Web.ring(3), 2), Crowd((2, 1))), (Run.level(Web.row(3), 2), Crowd((1, 2)))):
            room = Room(run, crowd)
            self.assertEqual(room.ask("word"), verdict(run, crowd).word)
            self.assertEqual(room.deeds, ())
        room.quicken(0, 1, 7)
        self.assertEqual(room.ask("word"), "stands")

    def test_flows(self):
        room = Room(RING, CROWD)
        room.quicken(0, 1, 3)
        run, crowd = room.current()
        for u, v, a in ((0, 1, 0), (1, 0, 2), (3, 2, 1)):
            found = room.ask("flow", u, v, a)
            self.assertEqual(found, share_flow(run, lasting_shares(run, crowd), u, v, a))
            self.assertIsInstance(found, Ratio)

    def test_lasting_tables(self):
        room = Room(even_run(Web.ring(3), 2), Crowd((2, 1)))
        flat = RatioTable.even(Web.ring(3), 2)
        self.assertIs(room.ask("lasts", flat), True)
        room.quicken(0, 1, 2)
        self.assertIs(room.ask("lasts", flat), lasts(*room.current()[:1], flat, room.current()[1]))
        self.assertIs(room.ask("lasts", flat), False)

    def test_many_words(self):
        crowd = Crowd((2, 2, 2, 2))
        classes = some_classes(crowd, ((0, 1, 2), (3,)))
        room = Room(classes_run(Web.ring(8), classes, some_rows(Web.ring(8), 4)), crowd)
        self.assertIs(room.ask("lasts", RatioTable.even(Web.ring(8), 4)), False)
        self.assertIs(room.ask("lasts", class_table(Web.ring(8), classes)), True)
        self.assertEqual(told(room.ask, "word"), ("TooMany", 2520))
        self.assertEqual(told(room.ask, "flow", 9, 9, 9), ("TooMany", 2520))

    def test_wrong_ones(self):
        room = Room(RING, CROWD)
        flat = RatioTable.even(Web.ring(4), 3)
        for things in (
            ("Word",), ("",), (None,), (0,), (["word"],), ("word", 0), ("flow",), ("flow", 0, 1), ("flow", 0, 1, 0, 0), ("lasts",),
            ("lasts", flat, flat), ("settle", (2, 1, 1)), ("flow", (0, 1, 0)), ("flows", 0, 1, 0),
        ):
            self.assertEqual(told(room.ask, *things), ("BadNumber", "question"), things)
        for things, wrong in [
            (("flow", 4, 9, 9), ("BadPlace", 4)), (("flow", 0, 2, 9), ("NoTie", 0, 2)), (("flow", 0, 1, 3), ("BadKind", 3)),
            (("lasts", RatioTable.even(Web.row(4), 3)), ("Unfit",)), (("lasts", RatioTable.even(Web.ring(4), 2)), ("Unfit",)),
        ]:
            self.assertEqual(told(room.ask, *things), wrong)
        name, walk = told(room.ask, "lasts", table_of_run(RING))
        self.assertEqual((name, walk[0]), ("NotKept", walk[-1]))
        part = Room(some_run(Web.ring(7), 3, zeros=True), Crowd((5, 1, 1)))
        self.assertEqual(told(part.ask, "word"), ("NotFull",))
        # The shares are asked for before the places are looked at.
        self.assertEqual(told(part.ask, "flow", 9, 9, 9), ("NotFull",))


class TestTried(unittest.TestCase):

    def test_words_after_deeds(self):
        room = Room(RING, CROWD)
        room.quicken(0, 1, 1)
        before = state(room)
        deeds = [
            ("settle", (2, 1, 1)), ("quicken", 0, 1, Ratio(2)), ("lay", 0, 2, TABLE), ["cut_tie", 1, 2],
            ("join_kinds", ((0, 1), (2,))), ("turn",),
        ]
        for many in range(len(deeds) + 1):
            other = Room(*room.current())
            for name, *things in deeds[:many]:
                getattr(other, name)(*things)
            self.assertEqual(room.tried(deeds[:many]), other.ask("word"))
            self.assertEqual(room.tried(tuple(deeds[:many])), other.ask("word"))
            self.assertEqual(state(room), before)

    def test_deeds_as_they_were_returned(self):
        first, second = Room(RING, CROWD), Room(RING, CROWD)
        for call in (
            lambda: first.settle([2, 1, 1]), lambda: first.lay(2, 0, TABLE), lambda: first.quicken(3, 0, 2),
            lambda: first.cut_tie(0, 1), lambda: first.join_kinds([[2], [0, 1]]), first.turn,
        ):
            call()
            self.assertEqual(second.tried(first.deeds), first.ask("word"))
        self.assertEqual(state(second), ((RING, CROWD), ()))

    def test_wrong_deeds_before_the_first_one(self):
        room = Room(RING, CROWD)
        room.quicken(0, 1, 2)
        before = state(room)
        good = ("settle", (2, 1, 1))
        for deeds in (
            None, "turn", {0: good}, good, [None], [good, ()], [good, []], [good, "turn"], [good, ("undo",)], [("turn", 0)],
            [("settle",)], [("settle", (1, 1, 2), 0)], [("quicken", 0, 1)], [("quicken", 0, 1, 2, 2)], [("lay", 0, 2)],
            [("lay", 0, 2, TABLE, 0)], [("cut_tie", 0)], [("cut_tie", 0, 1, 2)], [("join_kinds",)], [("join_kinds", [[0]], 1)],
            [("ask", "word")], [("Turn",)], [(None,)], [(["turn"],)], [({},)], [("current",)], [("deeds",)], [("tried", [])],
            [("trial",)], [(0, 1)], [("settle", None), ("nothing",)], [["word"]],
        ):
            self.assertEqual(told(room.tried, deeds), ("BadNumber", "deeds"), deeds)
            self.assertEqual(state(room), before)

    def test_deeds_and_questions_that_raise(self):
        room = Room(RING, CROWD)
        room.quicken(0, 1, 2)
        before = state(room)
        for deeds, wrong in [
            ([("settle", (2, 1, 1)), ("cut_tie", 0, 2), ("settle", None)], ("NoTie", 0, 2)),
            ([("settle", (2, 1, 1)), ("settle", None), ("cut_tie", 0, 2)], ("BadCounts", -1)),
            ([("quicken", 0, 1, 0)], ("BadNumber", "number")), ([("join_kinds", [[0, 2], [1]])], ("NotJoined",)),
            ([("cut_tie", 0, 1), ("cut_tie", 0, 3)], ("BadWeb", -2)), ([("lay", 0, 1, TABLE)], ("BadWeb", 0)),
            ([("lay", 0, 2, [[0, 1, 0], [1, 0, 1], [1, 1, 0]])], ("NotFull",)), ([("turn",)], ("NotLocal",)),
        ]:
            self.assertEqual(told(room.tried, deeds), wrong, deeds)
            self.assertEqual(state(room), before)
        big = Room(Run.level(Web.ring(7), 3), Crowd((5, 1, 1)))
        self.assertEqual(told(big.tried, []), ("TooMany", 42))
        self.assertEqual(big.tried([("join_kinds", [[0, 1], [2]])]), "stands")
        self.assertEqual(big.deeds, ())


class TestTrial(unittest.TestCase):

    def test_the_room_is_left_as_it_was(self):
        room = Room(RING, CROWD)
        room.quicken(0, 1, 2)
        before = state(room)
        with room.trial() as same:
            self.assertIs(same, room)
            room.settle((2, 1, 1))
            same.cut_tie(0, 1)
            self.assertEqual(len(room.deeds), 3)
        self.assertEqual(state(room), before)
        self.assertEqual(room.undo(), ("quicken", 0, 1, 2))

    def test_undone_deeds_come_back(self):
        room = Room(RING, CROWD)
        room.quicken(0, 1, 2)
        room.settle((2, 1, 1))
        before = state(room)
        with room.trial():
            room.undo()
            room.undo()
            self.assertEqual(told(room.undo), ("BadNumber", "deeds"))
            room.cut_tie(0, 1)
        self.assertEqual(state(room), before)
        self.assertEqual(room.undo()[0], "settle")
        self.assertEqual(state(room), ((quickened(RING, 0, 1), CROWD), (("quicken", 0, 1, 2),)))

    def test_errors_pass(self):
        room = Room(RING, CROWD)
        before = state(room)
        for call in (lambda: room.cut_tie(0, 2), lambda: {}[0]):
            with self.assertRaises((StepError, KeyError)):
                with room.trial() as same:
                    same.settle((2, 1, 1))
                    call()
            self.assertEqual(state(room), before)

    def test_the_state_is_that_of_the_beginning_of_the_block(self):
        room = Room(RING, CROWD)
        trial = room.trial()
        room.quicken(0, 1, 2)
        before = state(room)
        with trial:
            room.quicken(0, 1, 2)
        self.assertEqual(state(room), before)

    def test_one_in_another(self):
        room = Room(RING, CROWD)
        with room.trial() as first:
            first.quicken(0, 1, 2)
            inner = state(room)
            with room.trial() as second:
                second.quicken(0, 1, 2)
                self.assertEqual(room.tried([("settle", (2, 1, 1))]), "other")
                self.assertEqual(len(room.deeds), 2)
            self.assertEqual(state(room), inner)
        self.assertEqual(state(room), ((RING, CROWD), ()))

    def test_shares_are_those_of_the_room(self):
        room = Room(Run.level(Web.ring(3), 2), Crowd((2, 1)))
        with room.trial() as same:
            same.quicken(0, 1, 9)
            self.assertEqual(lasting_shares(*same.current()), Shares.even(Crowd((2, 1))))
