"""[79], [80]: the parts of a lean by places, by kinds and by both."""

import unittest
from itertools import combinations, permutations, product

from steprows.crowds import Crowd
from steprows.evens import is_even
from steprows.leans import Lean, lean_of, run_of
from steprows.parts import four_parts, kind_parts, place_parts
from steprows.ratios import Ratio
from steprows.shapes import non_ties
from steprows.ways import even_base
from steprows.webs import Web
from tests.common import even_run, fraction, small_crowds, some_lean, some_run, some_webs, told

CROWDS = small_crowds(3) + small_crowds(4) + [Crowd((3, 2)), Crowd((2, 1, 2)), Crowd((3, 1, 1, 1))]


def is_place_difference(lean):
    """For each two kinds, whether the entries are numbers of the places less each other."""
    return all(
        lean.at(u, v, a, b) + lean.at(v, s, a, b) == lean.at(u, s, a, b)
        for u, v, s in permutations(range(lean.size), 3) for a, b in product(range(lean.kinds), repeat=2)
    )


def is_place_balanced(lean):
    return not any(
        sum(fraction(lean.at(u, v, a, b)) for v in range(lean.size) if v != u)
        for u in range(lean.size) for a, b in product(range(lean.kinds), repeat=2)
    )


def is_kind_difference(lean):
    return all(
        lean.at(u, v, a, b) + lean.at(u, v, b, c) == lean.at(u, v, a, c)
        for u, v in combinations(range(lean.size), 2) for a, b, c in product(range(lean.kinds), repeat=3)
    )


def is_kind_balanced(lean, crowd):
    return not any(
        sum(fraction(lean.at(u, v, a, b)) * count for b, count in enumerate(crowd.counts))
        for u, v in combinations(range(lean.size), 2) for a in range(lean.kinds)
    )


class TestTwoParts(unittest.TestCase):

    def test_by_places(self):
        for size, kinds in ((3, 2), (3, 3), (4, 3), (5, 2), (8, 2)):
            lean = some_lean(size, kinds)
            parts = place_parts(lean)
            self.assertIsInstance(parts, tuple)
            difference, balanced = parts
            self.assertEqual(difference + balanced, lean)
            self.assertTrue(is_place_difference(difference))
            self.assertTrue(is_place_balanced(balanced))
            self.assertFalse(is_place_difference(lean) or is_place_balanced(lean))
            none = Lean.nothing(size, kinds)
            self.assertEqual(place_parts(difference), (difference, none))
            self.assertEqual(place_parts(balanced), (none, balanced))
            for (u, v), a, b in product(permutations(range(size), 2), range(kinds), range(kinds)):
                first = sum(fraction(lean.at(u, s, a, b)) for s in range(size) if s != u)
                second = sum(fraction(lean.at(v, s, a, b)) for s in range(size) if s != v)
                self.assertEqual(fraction(difference.at(u, v, a, b)), (first - second) / size)

    def test_by_kinds(self):
        for crowd in CROWDS:
            lean = some_lean(crowd.size, crowd.kinds)
            parts = kind_parts(lean, crowd)
            self.assertIsInstance(parts, tuple)
            difference, balanced = parts
            self.assertEqual(difference + balanced, lean)
            self.assertTrue(is_kind_difference(difference))
            self.assertTrue(is_kind_balanced(balanced, crowd))
            none = Lean.nothing(crowd.size, crowd.kinds)
            self.assertEqual(kind_parts(difference, crowd), (difference, none))
            self.assertEqual(kind_parts(balanced, crowd), (none, balanced))
            if crowd.kinds == 2:
                self.assertEqual(parts, (lean, none))
            for (u, v), a, b in product(combinations(range(crowd.size), 2), range(crowd.kinds), range(crowd.kinds)):
                first = sum(k * fraction(lean.at(u, v, a, c)) for c, k in enumerate(crowd.counts))
                second = sum(k * fraction(lean.at(u, v, b, c)) for c, k in enumerate(crowd.counts))
                self.assertEqual(fraction(difference.at(u, v, a, b)), (first - second) / crowd.size)

    def test_unfit(self):
        lean = some_lean(4, 3)
        for crowd in (Crowd((2, 2)), Crowd((2, 2, 1)), Crowd((1, 1, 1)), Crowd((4,))):
            self.assertEqual(told(kind_parts, lean, crowd), ("Unfit",))
            self.assertEqual(told(four_parts, lean, crowd), ("Unfit",))


class TestFourParts(unittest.TestCase):

    def test_both_cuts(self):
        for crowd in CROWDS:
            lean = some_lean(crowd.size, crowd.kinds)
            parts = four_parts(lean, crowd)
            self.assertIsInstance(parts, tuple)
            self.assertEqual(len(parts), 4)
            self.assertEqual(parts[0] + parts[1] + parts[2] + parts[3], lean)
            for part, by_place, by_kind in zip(parts, (True, True, False, False), (True, False, True, False)):
                self.assertTrue(is_place_difference(part) if by_place else is_place_balanced(part))
                self.assertTrue(is_kind_difference(part) if by_kind else is_kind_balanced(part, crowd))
            first, second = kind_parts(lean, crowd)
            (dd, bd), (db, bb) = place_parts(first), place_parts(second)
            self.assertEqual(parts, (dd, db, bd, bb))

    def test_even_runs(self):
        seen = set()
        for web in some_webs(4):
            for crowd in (Crowd((2, 2)), Crowd((2, 1, 1)), Crowd((1, 1, 1, 1))):
                runs = [even_run(web, crowd.kinds), some_run(web, crowd.kinds)]
                runs += [run_of(web, lean * Ratio(-3, 2)) for lean in even_base(web, crowd)]
                runs.append(run_of(web, lean_of(runs[0]) + lean_of(runs[-1])))
                for run in runs:
                    dd, db, bd, bb = four_parts(lean_of(run), crowd)
                    none = Lean.nothing(4, crowd.kinds)
                    even = dd == none and bb == none
                    seen.add((even, db == none, bd == none))
                    self.assertIs(is_even(run, crowd), even)
                    if even:
                        self.assertFalse(any(
                            part.at(u, v, a, b) for u, v in non_ties(web) for part in (db, bd)
                            for a, b in combinations(range(crowd.kinds), 2)
                        ))
        self.assertTrue({(True, False, False), (True, False, True), (True, True, False), (True, True, True)} <= seen)

    def test_many_words(self):
        lean = some_lean(8, 6)
        crowd = Crowd((2, 2, 1, 1, 1, 1))
        parts = four_parts(lean, crowd)
        self.assertEqual(parts[0] + parts[1] + parts[2] + parts[3], lean)
        self.assertTrue(is_place_difference(parts[1]) and is_kind_balanced(parts[1], crowd))
        self.assertTrue(is_place_balanced(parts[2]) and is_kind_difference(parts[2]))
        self.assertEqual(four_parts(lean_of(even_run(Web.full(8), 6)), crowd)[2], lean_of(even_run(Web.full(8), 6)))
