"""[46]: pair functions and their sums."""

import unittest
from itertools import combinations, permutations, product

from steprows.pairs import PairSum, of_places
from steprows.ratios import Ratio
from tests.common import Numbers, all_ratios, fraction, pair_value, some_pairs, told, words_from

HALF = Ratio(1, 2)


def some_spots(size, kinds, seed=1):
    numbers = Numbers(seed)
    return [[numbers.ratio() - numbers.ratio() for _ in range(kinds)] for _ in range(size)]


class TestMaking(unittest.TestCase):

    def test_attributes(self):
        one = [[1, -2], (0, HALF)]
        pairs = PairSum(3, 2, [one, (one[0], one[1]), [[0, 0], [0, 7]]])
        self.assertEqual((pairs.size, pairs.kinds), (3, 2))
        self.assertEqual(pairs.tables, (((1, -2), (0, HALF)), ((1, -2), (0, HALF)), ((0, 0), (0, 7))))
        self.assertTrue(all_ratios(pairs.tables))
        one[0][0] = 9
        self.assertEqual(pairs.tables[0][0][0], 1)

    def test_nothing(self):
        for size, kinds in product((3, 4, 8), (2, 3, 6)):
            none = PairSum.nothing(size, kinds)
            self.assertEqual((none.size, none.kinds, len(none.tables)), (size, kinds, size * (size - 1) // 2))
            self.assertEqual(none.tables, (((Ratio(0),) * kinds,) * kinds,) * len(none.tables))
            self.assertTrue(all_ratios(none.tables))

    def test_numbers(self):
        for make in (lambda size, kinds: PairSum(size, kinds, None), PairSum.nothing,
                     lambda size, kinds: of_places(size, kinds, None)):
            for wrong in (2, 9, 0, -3, "3", None, Ratio(3), 3.0):
                self.assertEqual(told(make, wrong, 7), ("BadNumber", "size"))
            for wrong in (1, 7, 0, "2", None, Ratio(2), 2.0):
                self.assertEqual(told(make, 3, wrong), ("BadNumber", "kinds"))

    def test_wrong_tables(self):
        good = [[1, 2], [3, 4]]
        for tables, place in [
            (None, -1), ("abc", -1), ([good] * 2, -1), ([good] * 4, -1), ([good, good, None], 2), ([good, 5, None], 1),
            ([good, [[1, 2]], good], 1), ([[[1, 2], [3]], good, 5], 0), ([good, good, [[1, 2, 3], [1, 2, 3]]], 2),
            ([good, [[1, "2"], [3, 4]], good], 1), ([good, [[1, 2], [3, 4.0]], None], 1), ([good, ["12", good], 1], 1),
        ]:
            self.assertEqual(told(PairSum, 3, 2, tables), ("BadTable", place), tables)


class TestReading(unittest.TestCase):

    def test_either_way_round(self):
        for size, kinds in ((3, 2), (4, 3), (8, 2)):
            pairs = some_pairs(size, kinds)
            for number, (u, v) in enumerate(combinations(range(size), 2)):
                for a, b in product(range(kinds), repeat=2):
                    entry = pairs.tables[number][a][b]
                    self.assertEqual((pairs.at(u, v, a, b), pairs.at(v, u, b, a)), (entry, entry))
                    self.assertIsInstance(pairs.at(v, u, b, a), Ratio)

    def test_wrong_places_and_kinds(self):
        pairs = some_pairs(4, 3)
        for things, wrong in [
            ((4, 9, 7, 7), ("BadPlace", 4)), ((0, 9, 7, 7), ("BadPlace", 9)), ((2, 2, 7, 7), ("BadPlace", 2)),
            ((-1, 2, 7, 7), ("BadPlace", -1)), ((0, "1", 7, 7), ("BadPlace", "1")), ((3, 0, 3, 9), ("BadKind", 3)),
            ((3, 0, 2, 3), ("BadKind", 3)), ((0, 2, None, 0), ("BadKind", None)),
        ]:
            self.assertEqual(told(pairs.at, *things), wrong, things)

    def test_sums_at_words(self):
        for size, kinds in ((3, 2), (3, 3), (4, 3), (5, 2)):
            pairs = some_pairs(size, kinds)
            for word in words_from(size, kinds):
                self.assertEqual(fraction(pairs(word)), pair_value(pairs, word))
                self.assertEqual(pairs(list(word)), pairs(word))
                self.assertIsInstance(pairs(word), Ratio)

    def test_a_sum_by_hand(self):
        pairs = PairSum(3, 2, [[[1, 10], [100, 1000]], [[2, 20], [200, 2000]], [[3, 30], [300, 3000]]])
        for word, text in [((0, 0, 0), "6"), ((1, 0, 0), "303"), ((0, 1, 0), "312"), ((0, 0, 1), "51"),
                           ((1, 1, 0), "1500"), ((1, 1, 1), "6000")]:
            self.assertEqual(pairs(word).told(), text)
        self.assertEqual(PairSum.nothing(3, 2)((0, 1, 1)).told(), "0")

    def test_wrong_words(self):
        pairs = some_pairs(4, 3)
        for word, place in [
            (None, -1), ("0120", -1), ((0, 1, 2), -1), ((0, 1, 2, 0, 0), -1), (["x"], -1), ((0, 3, 9, 0), 1),
            ((0, 1, 2, -1), 3), ((Ratio(0), "1", 0, 0), 0), ((0, 1, None, 5), 2), (some_pairs(4, 3), -1),
        ]:
            self.assertEqual(told(pairs, word), ("BadWord", place), word)


class TestSums(unittest.TestCase):

    def test_entry_by_entry(self):
        one, other = some_pairs(4, 3, seed=1), some_pairs(4, 3, seed=2)
        for found, call in [
            (one + other, lambda x, y: x + y), (one - other, lambda x, y: x - y),
            (one * Ratio(-2, 3), lambda x, y: x * Ratio(-2, 3)), (one * 0, lambda x, y: x * 0),
            (one * 5, lambda x, y: x * 5),
        ]:
            self.assertIsInstance(found, PairSum)
            self.assertTrue(all_ratios(found.tables))
            for (u, v), a, b in product(permutations(range(4), 2), range(3), range(3)):
                self.assertEqual(found.at(u, v, a, b), call(one.at(u, v, a, b), other.at(u, v, a, b)))
        self.assertEqual((one, other), (some_pairs(4, 3, seed=1), some_pairs(4, 3, seed=2)))

    def test_wrong_ones(self):
        pairs = some_pairs(4, 3)
        for other in (some_pairs(5, 3), some_pairs(4, 2)):
            self.assertEqual(told(lambda: pairs + other), ("Unfit",))
            self.assertEqual(told(lambda: pairs - other), ("Unfit",))
        for number in (None, "2", 1.5, pairs):
            self.assertEqual(told(lambda: pairs * number), ("BadNumber", "other"))

    def test_equality(self):
        pairs = some_pairs(4, 3)
        self.assertTrue(pairs == PairSum(4, 3, [[list(row) for row in table] for table in pairs.tables]))
        self.assertFalse(pairs == pairs * 2)
        self.assertFalse(PairSum.nothing(4, 3) == PairSum.nothing(4, 2))
        self.assertFalse(PairSum.nothing(4, 3) == PairSum.nothing(5, 3))
        for other in (pairs.tables, 0, None, Ratio(0)):
            self.assertIs(PairSum.nothing(4, 3) == other, False)


class TestOfPlaces(unittest.TestCase):

    def test_value_at_each_word(self):
        for size, kinds in ((3, 2), (3, 4), (4, 3), (5, 2), (6, 2)):
            spots = some_spots(size, kinds)
            pairs = of_places(size, kinds, [tuple(row) for row in spots])
            self.assertEqual((pairs.size, pairs.kinds), (size, kinds))
            for word in words_from(size, kinds):
                self.assertEqual(fraction(pairs(word)), sum(fraction(spots[u][a]) for u, a in enumerate(word)))
        pairs = of_places(8, 6, some_spots(8, 6))
        self.assertEqual(pairs((0, 1, 2, 3, 4, 5, 5, 0)).told(), expected_at((0, 1, 2, 3, 4, 5, 5, 0)))
        self.assertEqual(of_places(3, 2, ((1, 2), (3, 4), (5, -6)))((1, 0, 1)), -1)

    def test_wrong_spots(self):
        good = (1, 2)
        for spots, place in [
            (None, -1), ("abc", -1), ([good] * 2, -1), ([good] * 4, -1), ([good, good, 5], 2),
            ([good, (1, 2, 3), 5], 1), ([(1,), None, good], 0), ([good, good, (1, "2")], 2),
            ([good, (None, 1), (1, 2.0)], 1),
        ]:
            self.assertEqual(told(of_places, 3, 2, spots), ("BadTable", place), spots)


def expected_at(word):
    spots = some_spots(8, 6)
    return sum((spots[u][a] for u, a in enumerate(word)), start=Ratio(0)).told()
