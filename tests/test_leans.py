"""[76]: leans on all pairs of places."""

import unittest
from itertools import combinations, permutations, product

from steprows.leans import Lean, as_pairs, is_on, lean_of, run_of
from steprows.pairs import PairSum
from steprows.ratios import Ratio
from steprows.runs import Run
from steprows.shapes import non_ties
from steprows.webs import Web
from tests.common import all_ratios, some_lean, some_run, some_webs, told

HALF = Ratio(1, 2)


class TestMaking(unittest.TestCase):

    def test_attributes(self):
        one = [[0, 2], (-2, Ratio(0))]
        lean = Lean(3, 2, [one, ([0, -HALF], [HALF, 0]), [[0, 0], [0, 0]]])
        self.assertEqual((lean.size, lean.kinds), (3, 2))
        self.assertEqual(lean.tables, (((0, 2), (-2, 0)), ((0, -HALF), (HALF, 0)), ((0, 0), (0, 0))))
        self.assertTrue(all_ratios(lean.tables))
        one[0][1] = 9
        self.assertEqual(lean.tables[0][0][1], 2)

    def test_nothing(self):
        for size, kinds in product((3, 5, 8), (2, 3, 6)):
            lean = Lean.nothing(size, kinds)
            self.assertIsInstance(lean, Lean)
            self.assertEqual((lean.size, lean.kinds, len(lean.tables)), (size, kinds, size * (size - 1) // 2))
            self.assertEqual(lean.tables, (((Ratio(0),) * kinds,) * kinds,) * len(lean.tables))
            self.assertTrue(all_ratios(lean.tables))

    def test_numbers(self):
        for make in (lambda size, kinds: Lean(size, kinds, None), Lean.nothing):
            for wrong in (2, 9, 0, "3", None, Ratio(3), 3.0):
                self.assertEqual(told(make, wrong, 7), ("BadNumber", "size"))
            for wrong in (1, 7, "2", None, Ratio(2)):
                self.assertEqual(told(make, 3, wrong), ("BadNumber", "kinds"))

    def test_wrong_tables(self):
        good = [[0, 1], [-1, 0]]
        for tables, place in [
            (None, -1), ("abc", -1), ([good] * 2, -1), ([good] * 4, -1), ([good, good, None], 2), ([good, 5, None], 1),
            ([good, [[0, 1]], good], 1), ([[[0, 1], [-1]], 5, 5], 0), ([good, good, [[0] * 3] * 3], 2),
            ([good, [[0, 1], [1, 0]], None], 1), ([good, [[1, 1], [-1, 0]], good], 1),
            ([good, good, [[0, 1], [-1, 2]]], 2), ([good, [[0, "1"], [-1, 0]], good], 1),
            ([[[0, 1.0], [-1, 0]], 7, good], 0), ([good, [[0, 2], [-1, 0]], 5], 1),
        ]:
            self.assertEqual(told(Lean, 3, 2, tables), ("BadTable", place), tables)

    def test_each_two_kinds_are_asked(self):
        good = [[0, 1, 2], [-1, 0, 3], [-2, -3, 0]]
        for a, b in product(range(3), repeat=2):
            wrong = [list(row) for row in good]
            wrong[a][b] = 7
            self.assertEqual(told(Lean, 3, 3, [good, good, wrong]), ("BadTable", 2))


class TestReading(unittest.TestCase):

    def test_either_way_round(self):
        for size, kinds in ((3, 2), (4, 3), (8, 2)):
            lean = some_lean(size, kinds)
            for number, (u, v) in enumerate(combinations(range(size), 2)):
                for a, b in product(range(kinds), repeat=2):
                    entry = lean.tables[number][a][b]
                    self.assertEqual((lean.at(u, v, a, b), lean.at(v, u, b, a)), (entry, entry))
                    self.assertEqual((lean.at(u, v, b, a), lean.at(v, u, a, b)), (-entry, -entry))
                    self.assertIsInstance(lean.at(v, u, a, b), Ratio)

    def test_wrong_places_and_kinds(self):
        lean = some_lean(4, 3)
        for things, wrong in [
            ((4, 9, 7, 7), ("BadPlace", 4)), ((0, 9, 7, 7), ("BadPlace", 9)), ((2, 2, 7, 7), ("BadPlace", 2)),
            ((0, "1", 7, 7), ("BadPlace", "1")), ((3, 0, 3, 9), ("BadKind", 3)), ((3, 0, 2, -1), ("BadKind", -1)),
        ]:
            self.assertEqual(told(lean.at, *things), wrong, things)

    def test_the_lean_of_a_run(self):
        for web in some_webs(4):
            for run in (some_run(web, 3), some_run(web, 3, zeros=True)):
                lean = lean_of(run)
                self.assertIsInstance(lean, Lean)
                self.assertEqual((lean.size, lean.kinds), (4, 3))
                for (u, v), a, b in product(permutations(range(4), 2), range(3), range(3)):
                    expected = run.rate(u, v, a, b) - run.rate(u, v, b, a) if (u, v) in web else 0
                    self.assertEqual(lean.at(u, v, a, b), expected)
                    self.assertEqual(run.lean(u, v, a, b), expected)
                self.assertIs(is_on(lean, web), True)
                other = some_run(web, 3, seed=5)
                self.assertEqual(lean_of(run + other), lean + lean_of(other))
                self.assertEqual(lean_of(run * Ratio(2, 3)), lean * Ratio(2, 3))
        self.assertEqual(lean_of(Run.level(Web.ring(5), 4)), Lean.nothing(5, 4))

    def test_on_a_web_or_not(self):
        for web in some_webs(4):
            for pair in combinations(range(4), 2):
                tables = [[[0, 0], [0, 0]] for _ in range(6)]
                tables[list(combinations(range(4), 2)).index(pair)] = [[0, 1], [-1, 0]]
                self.assertIs(is_on(Lean(4, 2, tables), web), pair in web.ties)
            self.assertIs(is_on(Lean.nothing(4, 2), web), True)
        self.assertEqual(told(is_on, Lean.nothing(4, 2), Web.row(5)), ("Unfit",))

    def test_read_as_pairs(self):
        lean = some_lean(5, 3)
        pairs = as_pairs(lean)
        self.assertIsInstance(pairs, PairSum)
        self.assertEqual((pairs.size, pairs.kinds, pairs.tables), (5, 3, lean.tables))


class TestSums(unittest.TestCase):

    def test_entry_by_entry(self):
        one, other = some_lean(4, 3, seed=1), some_lean(4, 3, seed=2)
        for found, call in [
            (one + other, lambda x, y: x + y), (one - other, lambda x, y: x - y), (one * 0, lambda x, y: Ratio(0)),
            (one * Ratio(-2, 3), lambda x, y: x * Ratio(-2, 3)),
        ]:
            self.assertIsInstance(found, Lean)
            self.assertTrue(all_ratios(found.tables))
            for (u, v), a, b in product(combinations(range(4), 2), range(3), range(3)):
                self.assertEqual(found.at(u, v, a, b), call(one.at(u, v, a, b), other.at(u, v, a, b)))
        self.assertEqual((one, other), (some_lean(4, 3, seed=1), some_lean(4, 3, seed=2)))

    def test_wrong_ones(self):
        lean = some_lean(4, 3)
        for other in (some_lean(5, 3), some_lean(4, 2)):
            self.assertEqual(told(lambda: lean + other), ("Unfit",))
            self.assertEqual(told(lambda: lean - other), ("Unfit",))
        for number in (None, "2", 1.5, lean):
            self.assertEqual(told(lambda: lean * number), ("BadNumber", "other"))

    def test_equality(self):
        lean = some_lean(4, 3)
        self.assertTrue(lean == Lean(4, 3, [[list(row) for row in table] for table in lean.tables]))
        self.assertFalse(lean == lean * 2)
        self.assertFalse(Lean.nothing(4, 3) == Lean.nothing(4, 2))
        self.assertFalse(Lean.nothing(4, 3) == Lean.nothing(5, 3))
        for other in (as_pairs(lean), lean.tables, 0, None):
            self.assertIs(lean == other, False)
        self.assertIs(PairSum.nothing(4, 3) == Lean.nothing(4, 3), False)


class TestRunOf(unittest.TestCase):

    def test_rates(self):
        for web in some_webs(4):
            lean = some_lean(4, 3, web=web)
            for level, run in [
                (1, run_of(web, lean)), (0, run_of(web, lean, level=0)),
                (Ratio(5, 2), run_of(web, lean, level=Ratio(5, 2))),
            ]:
                self.assertEqual((run.web, run.kinds), (web, 3))
                self.assertEqual(lean_of(run), lean)
                for (u, v), a, b in product(web.ties, range(3), range(3)):
                    more = lean.at(u, v, a, b)
                    expected = 0 if a == b else more + level if more.top > 0 else level
                    self.assertEqual(run.rate(u, v, a, b), expected)
                self.assertTrue(run.filled or level == 0)
        self.assertEqual(run_of(Web.row(3), Lean.nothing(3, 2)), Run.level(Web.row(3), 2))

    def test_wrong_ones_in_order(self):
        lean = some_lean(4, 3, web=Web.full(4))
        for web in (Web.row(4), Web.full(5), Web.full(3), Web.full(4) - (1, 2)):
            self.assertEqual(told(run_of, web, lean, level=-1), ("Unfit",))
        self.assertTrue(non_ties(Web.full(4) - (1, 2)))
        for level in (-1, Ratio(-1, 9), "1", None, 1.5):
            self.assertEqual(told(run_of, Web.full(4), lean, level=level), ("BadNumber", "level"))
