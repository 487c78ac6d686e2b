"""[1], [8], [9], [10]: runs."""

import unittest

from steprows.crowds import Crowd
from steprows.ratios import Ratio
from steprows.runs import Run, moves
from steprows.webs import Web
from tests.common import BIG_CROWD, all_ratios, some_run, some_webs, told


class TestMaking(unittest.TestCase):

    def test_attributes(self):
        half = Ratio(1, 2)
        run = Run(Web.row(3), 2, [[[0, half], (1, 0)], ([0, 3], [0, 0])])
        self.assertEqual((run.web, run.kinds), (Web.row(3), 2))
        self.assertEqual(run.rates, (((0, half), (1, 0)), ((0, 3), (0, 0))))
        self.assertTrue(all_ratios(run.rates))

    def test_kinds(self):
        for kinds in (1, 7, 0, "2", None, Ratio(2)):
            self.assertEqual(told(Run, Web.row(3), kinds, None), ("BadNumber", "kinds"))
            self.assertEqual(told(Run.level, Web.row(3), kinds), ("BadNumber", "kinds"))
        self.assertEqual(Run.level(Web.row(3), 6).kinds, 6)

    def test_wrong_rates(self):
        good = [[0, 1], [2, 0]]
        for rates, place in [
            (None, -1), ([], -1), ([good], -1), ([good] * 3, -1), ([5, 5, 5], -1), ("ab", -1), ([good, None], 1),
            ([good, [[0, 1]]], 1), ([good, [[0, 1, 1], [1, 0, 1]]], 1), ([[[0, -1], [1, 0]], None], 0),
            ([good, [[0, Ratio(-1, 2)], [1, 0]]], 1), ([[[1, 1], [1, 0]], good], 0),
            ([good, [[0, 1], [1, Ratio(1)]]], 1),
            ([good, [[0, "1"], [1, 0]]], 1), ([good, [[0, 1], None]], 1), ([good, [[0, 1.5], [1, 0]]], 1),
        ]:
            self.assertEqual(told(Run, Web.row(3), 2, rates), ("BadTable", place), rates)

    def test_the_rates_passed_are_not_kept(self):
        table = [[0, 1], [2, 0]]
        rates = [table, table]
        run = Run(Web.row(3), 2, rates)
        table[0][1] = 9
        rates.pop()
        self.assertEqual(run.rates, (((0, 1), (2, 0)), ((0, 1), (2, 0))))

    def test_level(self):
        for kinds in (2, 3, 6):
            run = Run.level(Web.ring(4), kinds)
            for u, v in run.web.ties:
                for a in range(kinds):
                    for b in range(kinds):
                        self.assertEqual(run.rate(u, v, a, b), int(a != b))
            self.assertTrue(run.filled)


class TestAsking(unittest.TestCase):

    def test_filled(self):
        self.assertIs(some_run(Web.star(4), 3).filled, True)
        self.assertIs(Run(Web.row(3), 2, [[[0, 1], [2, 0]], [[0, 1], [0, 0]]]).filled, False)
        self.assertIs(Run(Web.row(3), 2, [[[0, 0], [2, 0]], [[0, 1], [1, 0]]]).filled, False)

    def test_equality(self):
        run = some_run(Web.row(3), 2)
        self.assertTrue(run == Run(Web.row(3), 2, run.rates))
        self.assertFalse(run == run * 2)
        self.assertFalse(Run.level(Web.row(3), 2) == Run.level(Web.star(3), 2))
        self.assertFalse(Run.level(Web.row(3), 2) == Run.level(Web.row(3), 3))
        for other in (run.rates, None, 1, Web.row(3)):
            self.assertIs(run == other, False)

    def test_rates_and_leans_from_either_end(self):
        for web in some_webs(4):
            run = some_run(web, 3, zeros=True)
            for number, (u, v) in enumerate(web.ties):
                for a in range(3):
                    for b in range(3):
                        rate = run.rates[number][a][b]
                        self.assertEqual((run.rate(u, v, a, b), run.rate(v, u, b, a)), (rate, rate))
                        lean = rate - run.rates[number][b][a]
                        self.assertEqual((run.lean(u, v, a, b), run.lean(v, u, b, a)), (lean, lean))
                        self.assertIsInstance(run.rate(u, v, a, b), Ratio)
                        self.assertIsInstance(run.lean(v, u, a, b), Ratio)

    def test_leans_at_non_ties(self):
        run = some_run(Web.row(4), 2)
        self.assertEqual((run.lean(0, 2, 0, 1), run.lean(3, 1, 1, 0)), (0, 0))
        self.assertIsInstance(run.lean(0, 3, 0, 0), Ratio)

    def test_wrong_places_and_kinds(self):
        run = some_run(Web.row(4), 2)
        self.assertEqual(told(run.rate, 4, 9, 7, 7), ("BadPlace", 4))
        self.assertEqual(told(run.rate, 1, 1, 7, 7), ("BadPlace", 1))
        self.assertEqual(told(run.rate, 2, 0, 7, 7), ("NoTie", 2, 0))
        self.assertEqual(told(run.rate, 1, 0, 2, 7), ("BadKind", 2))
        self.assertEqual(told(run.rate, 1, 0, 1, -1), ("BadKind", -1))
        self.assertEqual(told(run.lean, 0, 4, 7, 7), ("BadPlace", 4))
        self.assertEqual(told(run.lean, 3, 3, 0, 0), ("BadPlace", 3))
        self.assertEqual(told(run.lean, 0, 2, 0, 2), ("BadKind", 2))
        self.assertEqual(told(run.lean, 0, 1, "x", 2), ("BadKind", "x"))


class TestSums(unittest.TestCase):

    def test_sum_and_multiple(self):
        web = Web.ring(4)
        one = some_run(web, 3, seed=3)
        other = some_run(web, 3, seed=4, zeros=True)
        total = one + other
        many = one * Ratio(2, 3)
        for u, v in web.ties:
            for a in range(3):
                for b in range(3):
                    self.assertEqual(total.rate(u, v, a, b), one.rate(u, v, a, b) + other.rate(u, v, a, b))
                    self.assertEqual(total.lean(u, v, a, b), one.lean(u, v, a, b) + other.lean(u, v, a, b))
                    self.assertEqual(many.rate(u, v, a, b), one.rate(u, v, a, b) * Ratio(2, 3))
        self.assertTrue(all_ratios(total.rates) and all_ratios(many.rates))
        self.assertEqual((one * 0).rates[0][0][1], 0)
        self.assertEqual(one * 3, one + one + one)

    def test_wrong_ones(self):
        run = some_run(Web.row(3), 2)
        self.assertEqual(told(lambda: run + Run.level(Web.star(3), 2)), ("Unfit",))
        self.assertEqual(told(lambda: run + Run.level(Web.row(3), 3)), ("Unfit",))
        for wrong in (-1, Ratio(-1, 9), "2", None, 1.5):
            self.assertEqual(told(lambda: run * wrong), ("BadNumber", "other"))


class TestMoves(unittest.TestCase):

    def test_moves(self):
        run = Run(Web.ring(3), 2, [[[0, 1], [2, 0]], [[0, 0], [3, 0]], [[0, 4], [5, 0]]])
        crowd = Crowd((2, 1))
        self.assertEqual(moves(run, crowd, [0, 1, 0]), [((0, 1), (1, 0, 0), 1), ((1, 2), (0, 0, 1), 5)])
        self.assertEqual(moves(run, crowd, (0, 0, 1)), [((1, 2), (0, 1, 0), 4)])
        self.assertEqual(moves(run, crowd, (1, 0, 0)), [((0, 1), (0, 1, 0), 2), ((0, 2), (0, 0, 1), 3)])
        found = moves(run, crowd, (1, 0, 0))
        self.assertTrue(all(isinstance(step, tuple) and isinstance(step[2], Ratio) for step in found))
        found.clear()
        self.assertEqual(len(moves(run, crowd, (1, 0, 0))), 2)

    def test_many_words(self):
        run = Run.level(Web.full(8), 6)
        self.assertEqual(len(moves(run, BIG_CROWD, (0, 0, 1, 1, 2, 3, 4, 5))), 26)

    def test_wrong_ones(self):
        run = Run.level(Web.row(3), 2)
        self.assertEqual(told(moves, run, Crowd((2, 2)), None), ("Unfit",))
        self.assertEqual(told(moves, run, Crowd((1, 1, 1)), (0, 1, 2)), ("Unfit",))
        self.assertEqual(told(moves, run, Crowd((2, 1)), (0, 1)), ("BadWord", -1))
        self.assertEqual(told(moves, run, Crowd((2, 1)), (0, 1, 2)), ("BadWord", 2))
        self.assertEqual(told(moves, run, Crowd((2, 1)), (0, 1, 1)), ("BadWord", -2))
