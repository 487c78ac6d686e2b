"""[81], [82], [94]: the ways in which even runs lean, and webs on which they all stand."""

import unittest
from itertools import combinations, product

from steprows.backs import backwards
from steprows.crowds import Crowd
from steprows.evens import is_even
from steprows.leans import Lean, is_on, lean_of, run_of
from steprows.ratios import Ratio
from steprows.runs import Run
from steprows.shapes import is_star, is_tree, pieces, rounds
from steprows.standing import stands
from steprows.ways import always_stands, balanced, circulations, even_base, even_ways, standless
from steprows.webs import Web
from tests.common import (
    BIG_CROWD, Numbers, all_ratios, even_run, fraction, rank, small_crowds, some_run, some_webs, told,
)

JOINS = [
    Web.full(4) - (0, 1), Web.full(5) - (0, 1) - (2, 3), Web.star(5), Web.full(5), Web.ring(4), Web.star(5) + (1, 2),
]
CROWDS = small_crowds(3) + small_crowds(4) + [Crowd((2, 2, 1)), Crowd((2, 1, 1, 1)), Crowd((2, 1, 1, 1, 1))]


def flat_row(lean):
    return [fraction(entry) for table in lean.tables for row in table for entry in row]


def lean_ways(web, crowd):
    """How many leans on the web have all turn sums and all sums 0 and are free, by elimination."""
    pairs = list(combinations(range(crowd.kinds), 2))
    spots = {(tie, two): spot for spot, (tie, two) in enumerate(product(web.ties, pairs))}

    def entry(row, u, v, a, b, factor):
        if a != b and (u, v) in web:
            sign = (1 if u < v else -1) * (1 if a < b else -1)
            row[spots[(min(u, v), max(u, v)), (min(a, b), max(a, b))]] += factor * sign

    rows = []
    for (u, v, s), (a, b, c) in product(combinations(range(web.size), 3), combinations(range(crowd.kinds), 3)):
        rows.append([0] * len(spots))
        for (q, r), (y, z) in product(((u, v), (v, s), (s, u)), ((a, b), (b, c), (c, a))):
            entry(rows[-1], q, r, y, z, 1)
    for u, a in product(range(web.size), range(crowd.kinds)):
        rows.append([0] * len(spots))
        for v, (b, count) in product(range(web.size), enumerate(crowd.counts)):
            if v != u:
                entry(rows[-1], u, v, a, b, count)
    return len(spots) - rank(rows)


class TestCirculations(unittest.TestCase):

    def test_one_for_each_round(self):
        for size in (3, 4, 5, 6):
            for web in some_webs(size):
                found = circulations(web)
                self.assertIsInstance(found, list)
                self.assertEqual(len(found), len(rounds(web)))
                self.assertTrue(all(len(one) == len(web) and all_ratios(one) for one in found))
                for one, ring in zip(found, rounds(web)):
                    steps = list(zip(ring, ring[1:] + ring[:1]))
                    for (u, v), strength in zip(web.ties, one):
                        self.assertEqual(strength, ((u, v) in steps) - ((v, u) in steps))
                    for place in range(size):
                        away = [strength if place == tie[0] else -strength for tie, strength in zip(web.ties, one)
                                if place in tie]
                        self.assertEqual(sum(map(fraction, away)), 0)
                if found:
                    self.assertEqual(rank([list(map(fraction, one)) for one in found]), len(web) - size + 1)
        self.assertEqual(circulations(Web.star(5)), [])

    def test_each_list_is_new(self):
        for call, things in [
            (circulations, (Web.ring(4),)), (balanced, (Crowd((2, 1, 1)),)),
            (even_base, (Web.ring(4), Crowd((2, 1, 1)))),
        ]:
            many = len(call(*things))
            call(*things).clear()
            self.assertEqual(len(call(*things)), many)
            self.assertGreater(many, 0)

    def test_by_hand(self):
        # The ties (0, 1), (0, 3), (1, 2), (2, 3); the round goes from 2 to 3, 0, 1 and back to 2.
        self.assertEqual(rounds(Web.ring(4)), ((2, 3, 0, 1),))
        self.assertEqual(circulations(Web.ring(4)), [(1, -1, 1, 1)])


class TestBalanced(unittest.TestCase):

    def test_base(self):
        for crowd in CROWDS + [BIG_CROWD, Crowd((4,)), Crowd((1,))]:
            kinds = crowd.kinds
            found = balanced(crowd)
            self.assertIsInstance(found, list)
            self.assertEqual(len(found), (kinds - 1) * (kinds - 2) // 2)
            for table in found:
                self.assertTrue(isinstance(table, tuple) and all_ratios(table))
                self.assertEqual([len(row) for row in table], [kinds] * kinds)
                for a in range(kinds):
                    self.assertEqual(sum(k * fraction(table[a][b]) for b, k in enumerate(crowd.counts)), 0)
                    self.assertTrue(all(table[a][b] == -table[b][a] for b in range(kinds)))
            if found:
                self.assertEqual(rank([[fraction(one) for row in table for one in row] for table in found]), len(found))


class TestEvenWays(unittest.TestCase):

    def test_by_elimination(self):
        for crowd in CROWDS:
            if crowd.size > 5:
                continue
            for web in some_webs(crowd.size) + [web for web in JOINS if web.size == crowd.size]:
                self.assertEqual(even_ways(web, crowd), lean_ways(web, crowd))

    def test_formula(self):
        for web in (Web.full(8), Web.ring(8), Web.star(8), Web.row(8)):
            expected = (len(web) - 7) * 5 + (len(pieces(web)) - 1) * 10
            self.assertEqual(even_ways(web, BIG_CROWD), expected)
        self.assertEqual([even_ways(Web.star(8), BIG_CROWD), even_ways(Web.full(8), BIG_CROWD)], [10, 175])

    def test_base(self):
        for crowd in CROWDS:
            for web in some_webs(crowd.size) + [web for web in JOINS if web.size == crowd.size]:
                base = even_base(web, crowd)
                self.assertIsInstance(base, list)
                self.assertEqual(len(base), even_ways(web, crowd))
                for lean in base:
                    self.assertIsInstance(lean, Lean)
                    self.assertEqual((lean.size, lean.kinds, is_on(lean, web)), (crowd.size, crowd.kinds, True))
                    self.assertIs(is_even(run_of(web, lean), crowd), True)
                if base:
                    self.assertEqual(rank([flat_row(lean) for lean in base]), len(base))

    def test_sums_of_multiples(self):
        numbers = Numbers(4)
        for web in some_webs(4) + [web for web in JOINS if web.size == 4]:
            for crowd in (Crowd((2, 1, 1)), Crowd((1, 1, 1, 1))):
                base = even_base(web, crowd)
                total = Lean.nothing(4, crowd.kinds)
                for lean in base:
                    total = total + lean * (numbers.ratio() - numbers.ratio())
                self.assertIs(is_even(run_of(web, total), crowd), True)
                lean = lean_of(even_run(web, crowd.kinds))
                rows = [flat_row(one) for one in base]
                self.assertEqual(rank(rows + [flat_row(lean)]), len(base))
                lean = lean_of(some_run(web, crowd.kinds))
                self.assertEqual(rank(rows + [flat_row(lean)]), len(base) + 1)

    def test_unfit(self):
        for call in (even_ways, even_base, standless):
            self.assertEqual(told(call, Web.row(4), Crowd((2, 1))), ("Unfit",))
            self.assertEqual(told(call, Web.ring(4), Crowd((2, 2, 1))), ("Unfit",))
            self.assertEqual(told(call, Web.ring(4), Crowd((4,))), ("Unfit",))

    def test_example(self):
        crowd = Crowd((2, 1, 1))
        ring = even_ways(Web.ring(4), crowd)
        full = even_ways(Web.full(3), Crowd((1, 1, 1)))
        self.assertEqual([full, ring, even_ways(Web.star(4), crowd), even_ways(Web.row(4), crowd)], [4, 3, 1, 0])


class TestAlwaysStands(unittest.TestCase):

    def test_answers(self):
        for size in (3, 4, 5, 6):
            for web in some_webs(size):
                for kinds in range(2, 7):
                    expected = is_tree(web) and (kinds == 2 or not is_star(web))
                    self.assertIs(always_stands(web, kinds), expected)
                    if kinds <= size and size < 6:
                        crowds = small_crowds(size, (kinds,))
                        self.assertIs(all(even_ways(web, crowd) == 0 for crowd in crowds), expected)
                        self.assertIs(all(standless(web, crowd) is None for crowd in crowds), expected)
        self.assertIs(always_stands(Web.row(3), 3), False)
        self.assertIs(always_stands(Web.row(3), 2), True)

    def test_wrong_kinds(self):
        for kinds in (1, 7, 0, "2", None, Ratio(2), 2.0):
            for web in (Web.row(4), Web.ring(4)):
                self.assertEqual(told(always_stands, web, kinds), ("BadNumber", "kinds"))

    def test_runs_backwards_on_trees(self):
        for web in some_webs(4):
            for crowd in (Crowd((2, 2)), Crowd((3, 1)), Crowd((2, 1, 1)), Crowd((1, 1, 1, 1))):
                if always_stands(web, crowd.kinds):
                    for run in (some_run(web, crowd.kinds), even_run(web, crowd.kinds)):
                        back = backwards(run, crowd)
                        self.assertTrue(back is None or back == run)
                        self.assertIs(back is not None, stands(run, crowd))
                elif standless(web, crowd) is not None:
                    run = standless(web, crowd)
                    back = backwards(run, crowd)
                    self.assertIsNotNone(back)
                    self.assertFalse(back == run)


class TestStandless(unittest.TestCase):

    def test_runs(self):
        for crowd in CROWDS:
            for web in some_webs(crowd.size) + [web for web in JOINS if web.size == crowd.size]:
                run = standless(web, crowd)
                self.assertIs(run is None, even_ways(web, crowd) == 0)
                if run is not None:
                    self.assertIsInstance(run, Run)
                    self.assertEqual((run.web, run.kinds, run.filled), (web, crowd.kinds, True))
                    self.assertEqual((is_even(run, crowd), stands(run, crowd)), (True, False))

    def test_an_even_run_stands_just_without_a_lean(self):
        for web in some_webs(4):
            for crowd in (Crowd((2, 2)), Crowd((2, 1, 1))):
                for lean in even_base(web, crowd):
                    for number in (Ratio(1, 3), Ratio(-2), Ratio(0)):
                        run = run_of(web, lean * number, level=3)
                        self.assertEqual((is_even(run, crowd), stands(run, crowd)), (True, number == 0))

    def test_many_words(self):
        for web in (Web.ring(8), Web.star(8), Web.full(8)):
            run = standless(web, BIG_CROWD)
            self.assertEqual((run.filled, is_even(run, BIG_CROWD), stands(run, BIG_CROWD)), (True, True, False))
        self.assertIsNone(standless(Web.row(8), BIG_CROWD))
