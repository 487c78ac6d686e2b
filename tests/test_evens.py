"""[77], [78], [83], [89]: even runs."""

import unittest
from itertools import permutations, product

from steprows.backs import backwards
from steprows.crowds import Crowd
from steprows.evens import all_sum, even_always, even_fault, is_even, turn_sum
from steprows.leans import Lean, as_pairs, is_on, lean_of, run_of
from steprows.parts import four_parts
from steprows.ratios import Ratio
from steprows.shapes import is_join
from steprows.shares import Shares
from steprows.small import four_sum, one_mean, three_sum, vanishes
from steprows.solving import lasting_shares
from steprows.standing import is_lasting
from steprows.webs import Web
from tests.common import (
    BIG_CROWD, even_lean, even_run, fraction, small_crowds, some_lean, some_run, some_standing_run, some_webs, told,
)


def some_runs(web, crowd):
    """Even runs by a lean that runs round, by one of both sorts, and others."""
    run = some_run(web, crowd.kinds)
    lean = even_lean(web, crowd)
    return [
        even_run(web, crowd.kinds), run_of(web, lean), run, some_run(web, crowd.kinds, zeros=True),
        run_of(web, lean + lean_of(run)), run_of(web, lean, level=0),
    ]


def star_run(size=4):
    """The star of the document, on which three kinds lean round."""
    table, zero = [[0, 1, -1], [-1, 0, 2], [1, -2, 0]], [[0] * 3] * 3
    many = size * (size - 1) // 2
    return run_of(Web.star(size), Lean(size, 3, [table] * (size - 1) + [zero] * (many - size + 1)))


class TestSums(unittest.TestCase):

    def test_turn_sums(self):
        lean = some_lean(4, 4)
        for (u, v, s), (a, b, c) in product(permutations(range(4), 3), permutations(range(4), 3)):
            expected = sum(
                fraction(lean.at(q, r, y, z)) for q, r in ((u, v), (v, s), (s, u)) for y, z in ((a, b), (b, c), (c, a))
            )
            found = turn_sum(lean, [u, v, s], [a, b, c])
            self.assertEqual(fraction(found), expected)
            self.assertIsInstance(found, Ratio)
            self.assertEqual(three_sum(as_pairs(lean), (u, v, s), (a, b, c)), found * 2)

    def test_all_sums(self):
        for crowd in small_crowds(3) + small_crowds(4) + [Crowd((2, 2, 1))]:
            lean = some_lean(crowd.size, crowd.kinds)
            for u, a in product(range(crowd.size), range(crowd.kinds)):
                expected = sum(
                    k * fraction(lean.at(u, v, a, b)) for v in range(crowd.size) if v != u
                    for b, k in enumerate(crowd.counts)
                )
                found = all_sum(lean, crowd, u, a)
                self.assertEqual(fraction(found), expected)
                self.assertIsInstance(found, Ratio)
                self.assertEqual(one_mean(as_pairs(lean), crowd, u, a), found.over(crowd.size - 1))

    def test_four_sums_of_even_ones(self):
        for web in some_webs(4):
            lean = even_lean(web, Crowd((2, 1, 1)))
            for places, a, b, c in product(permutations(range(4), 4), range(3), range(3), range(3)):
                if a != b:
                    for e in {0, 1, 2} - {c}:
                        self.assertEqual(four_sum(as_pairs(lean), places, (a, b, c, e)), 0)

    def test_wrong_ones(self):
        lean = some_lean(4, 3)
        for places, wrong in [
            (None, -1), ("012", -1), ((0, 1), -1), ((0, 1, 2, 3), -1), ((0, 9, 8), 9), ((0, 1, 1), 1), ((4, 0, 0), 4),
            ((0, 1, 0), 0), ((0, "1", 2), "1"),
        ]:
            self.assertEqual(told(turn_sum, lean, places, None), ("BadPlace", wrong), places)
        for kinds, wrong in [
            (None, -1), ("012", -1), ((0, 1), -1), ((0, 1, 2, 0), -1), ((0, 3, 4), 3), ((0, 1, 1), 1), ((2, 2, 9), 2),
            ((0, 1, 0), 0), ((-1, 0, 0), -1),
        ]:
            self.assertEqual(told(turn_sum, lean, (0, 1, 2), kinds), ("BadKind", wrong), kinds)
        self.assertEqual(told(turn_sum, some_lean(4, 2), (0, 1, 2), (0, 1, 2)), ("BadKind", 2))
        for crowd in (Crowd((2, 2)), Crowd((1, 1, 1)), Crowd((2, 2, 1))):
            self.assertEqual(told(all_sum, lean, crowd, 9, 9), ("Unfit",))
        for u, a, wrong in [
            (4, 9, ("BadPlace", 4)), ("0", 9, ("BadPlace", "0")), (0, 3, ("BadKind", 3)), (0, -1, ("BadKind", -1)),
        ]:
            self.assertEqual(told(all_sum, lean, Crowd((2, 1, 1)), u, a), wrong)


class TestEven(unittest.TestCase):

    def test_against_all_words(self):
        seen = set()
        for size, crowds in ((3, small_crowds(3)), (4, small_crowds(4)), (5, [Crowd((3, 2)), Crowd((2, 2, 1))])):
            for web in some_webs(size):
                for crowd in crowds:
                    for run in some_runs(web, crowd):
                        even = is_lasting(run, Shares.even(crowd))
                        self.assertIs(is_even(run, crowd), even)
                        self.assertIs(vanishes(as_pairs(lean_of(run)), crowd), even)
                        seen.add(self.check_fault(run, crowd, even))
        self.assertEqual(seen, {None, "turn", "all"})

    def check_fault(self, run, crowd, even):
        fault = even_fault(run, crowd)
        self.assertIs(fault is None, even)
        if fault is None:
            return None
        lean = lean_of(run)
        name, places, kinds = fault
        self.assertTrue(all(isinstance(thing, tuple) for thing in (fault, places, kinds)))
        turns = [
            turn_sum(lean, row, of_kinds)
            for row in permutations(range(crowd.size), 3) for of_kinds in permutations(range(crowd.kinds), 3)
        ]
        self.assertEqual(name, "turn" if any(turns) else "all")
        self.assertEqual((len(places), len(kinds)), (3, 3) if any(turns) else (1, 1))
        if name == "turn":
            self.assertNotEqual(turn_sum(lean, places, kinds), 0)
        else:
            self.assertNotEqual(all_sum(lean, crowd, places[0], kinds[0]), 0)
        return name

    def test_each_sum_is_asked(self):
        # One entry alone at any pair of places and two kinds is found.
        web, crowd = Web.full(5), Crowd((2, 1, 1, 1))
        for number, a, b in product(range(10), range(4), range(4)):
            if a < b:
                tables = [[[Ratio(0)] * 4 for _ in range(4)] for _ in range(10)]
                tables[number][a][b], tables[number][b][a] = Ratio(1), Ratio(-1)
                fault = even_fault(run_of(web, Lean(5, 4, tables)), crowd)
                self.assertEqual(fault[0], "turn")
                self.assertNotEqual(turn_sum(Lean(5, 4, tables), fault[1], fault[2]), 0)

    def test_many_words(self):
        for web in (Web.row(8), Web.ring(8), Web.star(8), Web.full(8)):
            self.assertIs(is_even(even_run(web, 6), BIG_CROWD), True)
            self.assertIs(is_even(some_run(web, 6), BIG_CROWD), False)
            self.assertIs(is_even(run_of(web, even_lean(web, BIG_CROWD)), BIG_CROWD), True)

    def test_unfit(self):
        run = some_run(Web.row(4), 3)
        for crowd in (Crowd((2, 2)), Crowd((2, 2, 1)), Crowd((1, 1, 1)), Crowd((4,))):
            self.assertEqual(told(is_even, run, crowd), ("Unfit",))
            self.assertEqual(told(even_fault, run, crowd), ("Unfit",))

    def test_even_for_one_crowd(self):
        run = star_run()
        self.assertIs(is_even(run, Crowd((2, 1, 1))), True)
        self.assertIs(is_even(run, Crowd((1, 2, 1))), False)
        self.assertEqual(even_fault(run, Crowd((1, 2, 1)))[0], "all")
        self.assertEqual(run.rate(0, 1, 1, 2).told(), "3")


class TestEvenAlways(unittest.TestCase):

    def test_against_all_crowds(self):
        seen = set()
        for size in (3, 4):
            for web in some_webs(size):
                for kinds in range(2, size):
                    crowds = small_crowds(size, (kinds,))
                    runs = [run for crowd in crowds for run in some_runs(web, crowd)]
                    for run in runs + [even_run(web, kinds, seed=9)]:
                        answers = [is_even(run, crowd) for crowd in crowds]
                        seen.add((all(answers), any(answers)))
                        self.assertIs(even_always(run), all(answers))
                        for crowd, answer in zip(crowds, answers):
                            none = Lean.nothing(size, kinds)
                            by_parts = answer and four_parts(lean_of(run), crowd)[1] == none
                            self.assertIs(by_parts, all(answers))
                        if not is_join(web):
                            self.assertEqual(all(answers), any(answers))
        self.assertEqual(seen, {(True, True), (False, True), (False, False)})

    def test_other_numbers(self):
        self.assertIs(even_always(even_run(Web.ring(8), 6)), True)
        self.assertIs(even_always(some_run(Web.ring(8), 6)), False)
        self.assertIs(even_always(star_run()), False)
        # A difference of kinds at each tie that does not run round.
        table = [[0, 1, 2], [-1, 0, 1], [-2, -1, 0]]
        lean = Lean(4, 3, [table] + [[[0] * 3] * 3] * 5)
        self.assertIs(is_on(lean, Web.row(4)), True)
        self.assertIs(even_always(run_of(Web.row(4), lean)), False)
        # A lean that runs round for each two kinds, but is no difference.
        turn = [[0, 1, -1], [-1, 0, 1], [1, -1, 0]]
        back = [[-entry for entry in row] for row in turn]
        run = run_of(Web.ring(4), Lean(4, 3, [turn, [[0] * 3] * 3, back, turn, [[0] * 3] * 3, turn]))
        self.assertIs(even_always(run), False)

    def test_unfit(self):
        for web, kinds in ((Web.row(3), 3), (Web.row(3), 4), (Web.full(5), 5), (Web.ring(4), 6)):
            self.assertEqual(told(even_always, some_run(web, kinds)), ("Unfit",))


class TestChancesAtPlaces(unittest.TestCase):

    def test_they_tell_even_runs_with_a_run_backwards(self):
        seen = set()
        for web in some_webs(4):
            for crowd in (Crowd((2, 2)), Crowd((3, 1)), Crowd((2, 1, 1))):
                if web.along is not None and crowd.kinds > 2:
                    continue
                for run in (even_run(web, crowd.kinds), some_run(web, crowd.kinds), some_standing_run(web, crowd)):
                    if backwards(run, crowd) is None:
                        continue
                    shares = lasting_shares(run, crowd)
                    level = all(
                        shares.at_place(u, a) == Ratio(crowd.counts[a], 4)
                        for u, a in product(range(4), range(crowd.kinds))
                    )
                    seen.add(level)
                    self.assertIs(is_even(run, crowd), level)
        self.assertEqual(seen, {True, False})
