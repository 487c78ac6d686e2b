"""[86] to [89]: how kinds flow over the ties, and even runs with told flows or with none."""

import unittest
from fractions import Fraction
from itertools import product

from steprows.backs import backwards
from steprows.crowds import Crowd, words_in
from steprows.evens import is_even
from steprows.flows import kind_flow, moves_none, run_of_flows, share_flow, turning_run
from steprows.leans import Lean, lean_of, run_of
from steprows.parts import kind_parts
from steprows.ratios import Ratio
from steprows.runs import Run
from steprows.shapes import is_join, rounds
from steprows.shares import Shares
from steprows.solving import lasting_shares
from steprows.splits import Split
from steprows.standing import is_lasting, stands
from steprows.tables import RatioTable
from steprows.ways import standless
from steprows.webs import Web
from tests.common import (
    BIG_CROWD, Numbers, even_lean, even_run, flow_by_words, fraction, is_round, small_crowds, some_run,
    some_standing_run, some_webs, some_weights, told, word_chances,
)


def even_chances(crowd):
    words = list(words_in(crowd))
    return {word: Fraction(1, len(words)) for word in words}


def round_rows(web, crowd, seed=1):
    """A row for each kind that runs round the web, the rows adding up to 0."""
    numbers = Numbers(seed)
    rows = [[Fraction(0)] * len(web) for _ in crowd.counts]
    for ring in rounds(web):
        strengths = [fraction(numbers.ratio()) for _ in crowd.counts]
        strengths[-1] = -sum(strengths[:-1])
        for u, v in zip(ring, ring[1:] + ring[:1]):
            number = web.ties.index((min(u, v), max(u, v)))
            for row, strength in zip(rows, strengths):
                row[number] += strength if u < v else -strength
    return [[Ratio(one.numerator, one.denominator) for one in row] for row in rows]


class TestKindFlow(unittest.TestCase):

    def test_against_all_words(self):
        for size, crowds in ((3, small_crowds(3)), (4, small_crowds(4))):
            for web in some_webs(size):
                for crowd in crowds:
                    for zeros in (False, True):
                        run = some_run(web, crowd.kinds, zeros=zeros)
                        self.check_flows(run, crowd)

    def check_flows(self, run, crowd):
        chances = even_chances(crowd)
        flows = [kind_flow(run, crowd, a) for a in range(crowd.kinds)]
        for a, flow in enumerate(flows):
            self.assertIsInstance(flow, tuple)
            for (u, v), one in zip(run.web.ties, flow):
                self.assertIsInstance(one, Ratio)
                self.assertEqual(fraction(one), flow_by_words(run, chances, u, v, a))
            self.assertEqual(len(flow), len(run.web))
        for ones in zip(*flows):
            self.assertEqual(sum(map(fraction, ones)), 0)

    def test_many_words(self):
        self.check_flows(some_run(Web.row(7), 4), Crowd((2, 2, 2, 1)))
        self.assertEqual(len(kind_flow(some_run(Web.ring(8), 6), BIG_CROWD, 5)), 8)

    def test_even_runs_run_round(self):
        for size in (3, 4, 5):
            for web in some_webs(size):
                crowd = Crowd((size - 2, 1, 1))
                for run in (even_run(web, 3), run_of(web, even_lean(web, crowd))):
                    self.assertTrue(is_even(run, crowd))
                    for a in range(3):
                        self.assertTrue(is_round(web, kind_flow(run, crowd, a)))

    def test_wrong_ones_in_order(self):
        run = some_run(Web.ring(4), 2)
        for crowd in (Crowd((2, 1, 1)), Crowd((2, 1)), Crowd((3, 2)), Crowd((4,))):
            self.assertEqual(told(kind_flow, run, crowd, 9), ("Unfit",))
        for wrong in (2, -1, "0", None, Ratio(1)):
            self.assertEqual(told(kind_flow, run, Crowd((2, 2)), wrong), ("BadKind", wrong))


class TestShareFlow(unittest.TestCase):

    def test_against_all_words(self):
        for web in some_webs(3) + some_webs(4):
            for crowd in (Crowd((web.size - 1, 1)), Crowd((1, web.size - 2, 1)), Crowd((2,) + (1,) * (web.size - 2))):
                run = some_run(web, crowd.kinds, zeros=True)
                shares = Shares(crowd, some_weights(crowd))
                chances = word_chances(shares)
                for (u, v), a in product(web, range(crowd.kinds)):
                    there, back = share_flow(run, shares, u, v, a), share_flow(run, shares, v, u, a)
                    self.assertIsInstance(there, Ratio)
                    self.assertEqual(fraction(there), flow_by_words(run, chances, u, v, a))
                    self.assertEqual(there, -back)

    def test_even_shares_make_the_kind_flow(self):
        for web in some_webs(4):
            for crowd in small_crowds(4):
                run = some_run(web, crowd.kinds)
                for a in range(crowd.kinds):
                    flows = tuple(share_flow(run, Shares.even(crowd), u, v, a) for u, v in web)
                    self.assertEqual(flows, kind_flow(run, crowd, a))

    def test_wrong_ones_in_order(self):
        run, shares = some_run(Web.row(4), 3), Shares.even(Crowd((2, 1, 1)))
        for other in (Shares.even(Crowd((2, 2))), Shares.even(Crowd((1, 1, 1))), Shares.even(Crowd((4,)))):
            self.assertEqual(told(share_flow, run, other, 9, 9, 9), ("Unfit",))
        for u, v, a, wrong in [
            (4, 9, 9, ("BadPlace", 4)), (0, -1, 9, ("BadPlace", -1)), (1, 1, 9, ("BadPlace", 1)),
            ("0", 1, 9, ("BadPlace", "0")), (2, 0, 9, ("NoTie", 2, 0)), (0, 3, 9, ("NoTie", 0, 3)),
            (1, 0, 3, ("BadKind", 3)), (0, 1, -1, ("BadKind", -1)), (0, 1, "0", ("BadKind", "0")),
        ]:
            self.assertEqual(told(share_flow, run, shares, u, v, a), wrong)


class TestRunOfFlows(unittest.TestCase):

    def test_flows_as_told(self):
        for size in (3, 4, 5):
            for web in some_webs(size):
                for crowd in (Crowd((size - 1, 1)), Crowd((size - 2, 1, 1)), Crowd((1, size - 2, 1))):
                    rows = round_rows(web, crowd)
                    run = run_of_flows(web, crowd, rows)
                    self.assertIsInstance(run, Run)
                    self.assertEqual((run.web, run.kinds, run.filled), (web, crowd.kinds, True))
                    self.assertTrue(is_even(run, crowd))
                    self.assertEqual([list(kind_flow(run, crowd, a)) for a in range(crowd.kinds)], rows)

    def test_integers_and_tuples(self):
        web, crowd = Web.ring(3), Crowd((2, 1))
        run = run_of_flows(web, crowd, ([3, -3, 3], (-3, Ratio(3), -3)))
        self.assertEqual([kind_flow(run, crowd, a) for a in (0, 1)], [(3, -3, 3), (-3, 3, -3)])
        self.assertTrue(is_lasting(run, Shares.even(crowd)))

    def test_many_words(self):
        rows = round_rows(Web.ring(8), BIG_CROWD)
        run = run_of_flows(Web.ring(8), BIG_CROWD, rows)
        self.assertTrue(is_even(run, BIG_CROWD))
        self.assertEqual([list(kind_flow(run, BIG_CROWD, a)) for a in range(6)], rows)

    def test_wrong_ones_in_order(self):
        web, crowd = Web.ring(3), Crowd((1, 1, 1))
        good, none, off = [1, -1, 1], [0, 0, 0], [1, 1, 1]
        for other in (Crowd((2, 2)), Crowd((3,)), Crowd((1, 1))):
            self.assertEqual(told(run_of_flows, web, other, None), ("Unfit",))
        for flows in (
            None, "abc", [], [good, none], [good, none, none, none], [off, None, good], [off, good, "000"],
            [off, good, [0, 0]], [off, good, [0, 0, 0, 0]], [off, good, [0, 0, None]], [off, good, [0, 0, True]],
            {0: good, 1: none, 2: none},
        ):
            self.assertEqual(told(run_of_flows, web, crowd, flows), ("BadFlow", -1), flows)
        for flows, wrong in [
            ([off, off, good], 0), ([good, off, off], 1), ([good, good, off], 2), ([good, none, [-1, 1, 1]], 2),
            ([good, none, none], -1), ([good, good, good], -1), ([good, [1, -1, 1], [-2, 2, -1]], 2),
        ]:
            self.assertEqual(told(run_of_flows, web, crowd, flows), ("BadFlow", wrong), flows)

    def test_a_sum_that_fails_at_the_last_tie_alone(self):
        # Two rings that meet at place 0: the flows add up to 0 round the first one only.
        web = Web(5, ((0, 1), (0, 2), (0, 3), (0, 4), (1, 2), (3, 4)))
        first, second = [1, -1, 0, 0, 1, 0], [0, 0, 1, -1, 0, 1]
        crowd = Crowd((3, 2))
        back = [-1, 1, 0, 0, -1, 0]
        self.assertIsNone(told(run_of_flows, web, crowd, [first, back]))
        both = [one + more for one, more in zip(back, second)]
        self.assertEqual(told(run_of_flows, web, crowd, [first, both]), ("BadFlow", -1))

    def test_nothing_but_zero_on_a_tree(self):
        for web in (Web.row(4), Web.star(4)):
            self.assertTrue(stands(run_of_flows(web, Crowd((2, 2)), [[0] * 3] * 2), Crowd((2, 2))))
            self.assertEqual(told(run_of_flows, web, Crowd((2, 2)), [[0, 0, 1], [0, 0, -1]]), ("BadFlow", 0))


class TestMovesNone(unittest.TestCase):

    def test_against_flows_and_parts(self):
        seen = set()
        for size in (3, 4, 5):
            for web in some_webs(size):
                for crowd in (Crowd((size - 1, 1)), Crowd((size - 2, 1, 1))):
                    runs = [some_run(web, crowd.kinds), even_run(web, crowd.kinds), Run.level(web, crowd.kinds)]
                    runs += [run_of(web, even_lean(web, crowd)), some_standing_run(web, crowd)]
                    runs += [run for run in (turning_run(web, crowd), standless(web, crowd)) if run is not None]
                    for run in runs:
                        still = not any(any(kind_flow(run, crowd, a)) for a in range(crowd.kinds))
                        self.assertIs(moves_none(run, crowd), still)
                        seen.add((still, is_even(run, crowd)))
                        if is_even(run, crowd):
                            difference, _ = kind_parts(lean_of(run), crowd)
                            self.assertIs(still, difference == Lean.nothing(size, crowd.kinds))
        self.assertEqual(seen, {(True, True), (False, True), (False, False)})

    def test_a_single_flow(self):
        # Kinds 0 and 1 change their places; kind 2 does not move.
        flows = [[0, 0, 0], [5, -5, 5], [-5, 5, -5]]
        run = run_of_flows(Web.ring(3), Crowd((1, 1, 1)), flows)
        self.assertIs(moves_none(run, Crowd((1, 1, 1))), False)

    def test_not_even_runs_that_move_none(self):
        # Flows that vanish by the counts alone.
        lean = Lean(3, 3, [[[0, 1, -1], [-1, 0, 1], [1, -1, 0]], [[0] * 3] * 3, [[0] * 3] * 3])
        run = run_of(Web.row(3), lean)
        self.assertIs(moves_none(run, Crowd((1, 1, 1))), True)
        self.assertIs(is_even(run, Crowd((1, 1, 1))), False)

    def test_wrong_ones(self):
        for crowd in (Crowd((2, 1, 1)), Crowd((2, 1)), Crowd((4,))):
            self.assertEqual(told(moves_none, some_run(Web.ring(4), 2), crowd), ("Unfit",))


class TestTurningRun(unittest.TestCase):

    def test_just_on_joins_with_three_kinds(self):
        seen = set()
        for size in (3, 4, 5, 6):
            for web in some_webs(size):
                for crowd in (Crowd((size - 1, 1)), Crowd((1, size - 2, 1)), Crowd((size - 2, 1, 1))):
                    run = turning_run(web, crowd)
                    seen.add((run is None, is_join(web)))
                    self.assertIs(run is None, crowd.kinds < 3 or not is_join(web))
                    if run is not None:
                        self.assertEqual((run.web, run.kinds, run.filled), (web, crowd.kinds, True))
                        self.assertTrue(is_even(run, crowd))
                        self.assertTrue(moves_none(run, crowd))
                        self.assertFalse(stands(run, crowd))
        self.assertEqual(seen, {(True, True), (True, False), (False, True)})

    def test_many_words(self):
        run = turning_run(Web.star(8), BIG_CROWD)
        self.assertTrue(is_even(run, BIG_CROWD) and moves_none(run, BIG_CROWD) and not stands(run, BIG_CROWD))

    def test_wrong_ones(self):
        for crowd in (Crowd((2, 1)), Crowd((4,)), Crowd((3, 2))):
            for web in (Web.star(4), Web.row(4)):
                self.assertEqual(told(turning_run, web, crowd), ("Unfit",))


class TestSplitByTheFlatTable(unittest.TestCase):

    def test_pushed_runs_and_backwards(self):
        for web, crowd in ((Web.ring(3), Crowd((1, 1, 1))), (Web.full(4), Crowd((2, 1, 1))), (Web.star(4), Crowd((1, 2, 1)))):
            run = run_of(web, even_lean(web, crowd), level=2)
            split = Split(run, RatioTable.even(web, 3))
            for number, tie in enumerate(web.ties):
                for a, b in product(range(3), repeat=2):
                    self.assertEqual(split.turning[number][a][b], run.lean(*tie, a, b) * Ratio(1, 2))
            low, high = split.ends()
            for y in (0, 1, -1, Ratio(1, 3), high, low):
                pushed = split.pushed(y)
                self.assertTrue(is_even(pushed, crowd))
                self.assertEqual(lean_of(pushed), lean_of(run) * y)
                for a in range(3):
                    self.assertEqual(kind_flow(pushed, crowd, a), tuple(f * y for f in kind_flow(run, crowd, a)))
            back = backwards(run, crowd)
            for (u, v), a, b in product(web, range(3), range(3)):
                self.assertEqual(back.rate(u, v, a, b), run.rate(u, v, b, a))
            self.assertEqual(lean_of(back), lean_of(run) * -1)
            for a in range(3):
                self.assertEqual(kind_flow(back, crowd, a), tuple(-f for f in kind_flow(run, crowd, a)))


class TestEvenByPlaces(unittest.TestCase):

    def test_chances_at_places(self):
        seen = set()
        for web, crowd in (
            (Web.star(4), Crowd((2, 1, 1))), (Web.ring(4) + (0, 2), Crowd((2, 1, 1))), (Web.ring(4), Crowd((2, 2))),
            (Web.row(3), Crowd((2, 1))), (Web.ring(3), Crowd((1, 2))),
        ):
            for run in (even_run(web, crowd.kinds), some_standing_run(web, crowd), some_run(web, crowd.kinds)):
                shares = lasting_shares(run, crowd)
                if backwards(run, crowd) is not None:
                    even = all(
                        shares.at_place(u, a) == Ratio(crowd.counts[a], crowd.size)
                        for u in range(crowd.size) for a in range(crowd.kinds)
                    )
                    self.assertIs(even, is_even(run, crowd))
                    seen.add(even)
        self.assertEqual(seen, {True, False})
