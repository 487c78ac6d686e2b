"""[52]: which sums over few places tell the numbers of the words."""

import unittest
from itertools import combinations, permutations

from steprows.crowds import Crowd, words_of
from steprows.ratios import Ratio
from steprows.shares import Shares
from steprows.telling import place_sums, tells, untold
from tests.common import BIG_CROWD, Numbers, fraction, rank, told

CROWDS = [Crowd(counts) for counts in [
    (1,), (3,), (1, 1), (2, 1), (1, 2), (1, 1, 1), (2, 2), (1, 3), (2, 1, 1), (1, 2, 1), (1, 1, 1, 1), (3, 2),
    (2, 2, 1), (1, 1, 3), (1, 2, 1, 1), (2, 2, 2), (1, 1, 1, 1, 1), (4, 2), (3, 1, 2), (8,),
]]


def all_sums(crowd, numbers, many):
    """All sums for all choices of so many places."""
    return [one for places in combinations(range(crowd.size), many) for _, one in place_sums(crowd, numbers, places)]


def told_by_rank(crowd, many):
    """Whether the sums as linear forms in the numbers have as great a rank as there are words."""
    words = words_of(crowd)
    rows = []
    for places in combinations(range(crowd.size), many):
        for row in sorted({tuple(word[place] for place in places) for word in words}):
            rows.append([int(all(word[p] == kind for p, kind in zip(places, row))) for word in words])
    return rank(rows) == len(words)


class TestPlaceSums(unittest.TestCase):

    def test_sums_over_words(self):
        for crowd in CROWDS:
            numbers = [one - 2 for one in Numbers(crowd.size).ratios(crowd.many)]
            words = words_of(crowd)
            for many in range(min(crowd.size, 3) + 1):
                for places in list(permutations(range(crowd.size), many))[:40]:
                    expected = {}
                    for word, number in zip(words, numbers):
                        row = tuple(word[place] for place in places)
                        expected[row] = expected.get(row, 0) + fraction(number)
                    found = place_sums(crowd, tuple(numbers), list(places))
                    self.assertIsInstance(found, list)
                    self.assertEqual([(row, fraction(one)) for row, one in found], sorted(expected.items()))
                    self.assertTrue(all(
                        isinstance(part, tuple) and isinstance(part[0], tuple) and isinstance(part[1], Ratio)
                        for part in found
                    ))

    def test_the_order_of_the_places(self):
        crowd = Crowd((1, 1, 1))
        numbers = [1, 2, 4, 8, 16, 32]
        found = [(row, one.told()) for row, one in place_sums(crowd, numbers, (2, 0))]
        self.assertEqual(found, [
            ((0, 1), "8"), ((0, 2), "32"), ((1, 0), "2"), ((1, 2), "16"), ((2, 0), "1"), ((2, 1), "4"),
        ])
        self.assertEqual([(row, one.told()) for row, one in place_sums(crowd, numbers, ())], [((), "63")])
        self.assertEqual(len(place_sums(crowd, numbers, (1, 2, 0))), 6)

    def test_chances_as_numbers(self):
        crowd = Crowd((2, 1, 1))
        shares = Shares(crowd, list(range(1, 13)))
        for u in range(4):
            expected = [((a,), shares.at_place(u, a) * shares.bottom) for a in range(3)]
            self.assertEqual(place_sums(crowd, shares.weights, (u,)), expected)

    def test_wrong_ones_in_order(self):
        crowd = Crowd((2, 1))
        for numbers, place in [
            (None, -1), ("123", -1), ([1, 2], -1), ([1, 2, 3, 4], -1), ([1, "2", None], 1), ([1, 2, 0.5], 2),
        ]:
            self.assertEqual(told(place_sums, crowd, numbers, None), ("BadTable", place))
        for places, wrong in [
            (None, -1), ("01", -1), (3, -1), ((3, 9), 3), ((0, 9, 9), 9), ((1, 1), 1), ((0, 1, 2, 0), 0),
            ((0, -1), -1), ((0, "1"), "1"),
        ]:
            self.assertEqual(told(place_sums, crowd, [1, 2, 3], places), ("BadPlace", wrong), places)
        self.assertEqual(told(place_sums, Crowd((4, 2, 2)), None, None), ("TooMany", 420))
        self.assertEqual(told(place_sums, BIG_CROWD, [1], (9,)), ("TooMany", 10080))


class TestTelling(unittest.TestCase):

    def test_by_rank(self):
        for crowd in CROWDS:
            if crowd.many <= 60:
                for many in range(crowd.size + 1):
                    self.assertIs(tells(crowd, many), told_by_rank(crowd, many), (crowd.counts, many))

    def test_counts(self):
        self.assertEqual([tells(Crowd((2, 1)), many) for many in range(4)], [False, True, True, True])
        self.assertEqual([tells(BIG_CROWD, many) for many in range(9)], [False] * 6 + [True] * 3)
        self.assertEqual([tells(Crowd((1, 1, 1)), many) for many in range(4)], [False, False, True, True])
        self.assertIs(tells(Crowd((3,)), 0), True)

    def test_untold_numbers(self):
        for crowd in CROWDS + [Crowd((2, 1, 1, 1, 1))]:
            for many in range(crowd.size + 1):
                found = untold(crowd, many)
                self.assertIs(found is None, tells(crowd, many))
                if found is None:
                    continue
                self.assertTrue(isinstance(found, tuple) and all(one.__class__ is int for one in found))
                self.assertEqual(len(found), crowd.many)
                self.assertTrue(any(found))
                self.assertFalse(any(all_sums(crowd, found, many)))

    def test_wrong_ones(self):
        for number in (-1, 4, None, "1", Ratio(1), 1.0):
            self.assertEqual(told(tells, Crowd((2, 1)), number), ("BadNumber", "number"))
            self.assertEqual(told(untold, Crowd((2, 1)), number), ("BadNumber", "number"))
        self.assertEqual(told(untold, BIG_CROWD, 9), ("BadNumber", "number"))
        for number in (0, 8):
            self.assertEqual(told(untold, BIG_CROWD, number), ("TooMany", 10080))
        self.assertEqual(told(untold, Crowd((4, 2, 2)), 4), ("TooMany", 420))

    def test_example(self):
        crowd = Crowd((2, 1))
        first, second = place_sums(crowd, (1, 2, 4), (0,))
        found = [tells(crowd, 0), tells(crowd, 1), first[0], first[1].told(), second[0], second[1].told()]
        self.assertEqual(found, [False, True, (0,), "3", (1,), "4"])
