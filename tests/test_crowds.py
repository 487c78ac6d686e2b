"""[7]: crowds and words."""

import unittest
from itertools import permutations

from steprows.crowds import (
    Crowd, check_word, crowd_of, exchanged, spot_of, unlike_pairs, words_in, words_of,
)
from steprows.ratios import Ratio
from tests.common import small_crowds, told


class TestCrowd(unittest.TestCase):

    def test_numbers(self):
        crowd = Crowd([3, 2, 1])
        self.assertEqual((crowd.counts, crowd.size, crowd.kinds, crowd.many), ((3, 2, 1), 6, 3, 60))
        self.assertIsInstance(crowd.counts, tuple)
        self.assertEqual((Crowd.MOST_KINDS, Crowd.MOST_WORDS, Crowd.MOST_SOLVED), (6, 400, 36))
        self.assertEqual(Crowd((1,)).many, 1)
        self.assertEqual(Crowd((8,)).many, 1)
        self.assertEqual(Crowd((2, 2, 1, 1, 1, 1)).many, 10080)

    def test_roomy(self):
        self.assertIs(Crowd((2, 2)).roomy, True)
        self.assertIs(Crowd((3, 1)).roomy, False)

    def test_wrong_counts(self):
        for counts, place in [
            (None, -1), ("12", -1), ([], -1), ((), -1), ([1] * 7, -1), ([0] * 7, -1), (3, -1), ([1, 0, 0], 1),
            ([1, -2], 1), (["1", 9], 0), ([8, Ratio(1)], 1), ([8, 1], -2), ([9], -2), ([9, 0], 1), ([4, 4, 1], -2),
            ([2, None, "x"], 1),
        ]:
            self.assertEqual(told(Crowd, counts), ("BadCounts", place), counts)
        self.assertEqual(told(crowd_of), ("BadCounts", -1))
        self.assertEqual(told(crowd_of, 1, 0), ("BadCounts", 1))
        self.assertEqual(told(crowd_of, 4, 5), ("BadCounts", -2))
        self.assertEqual(told(crowd_of, 1, 1, 1, 1, 1, 1, 1), ("BadCounts", -1))

    def test_equality(self):
        self.assertTrue(crowd_of(2, 1) == Crowd([2, 1]))
        self.assertFalse(crowd_of(2, 1) == crowd_of(1, 2))
        for other in ((2, 1), None, 3):
            self.assertIs(crowd_of(2, 1) == other, False)

    def test_the_counts_passed_are_not_kept(self):
        counts = [2, 1]
        crowd = Crowd(counts)
        counts[0] = 5
        self.assertEqual(crowd.counts, (2, 1))

    def test_bears(self):
        crowd = Crowd((2, 1))
        self.assertIs(crowd.bears((0, 1, 0)), True)
        self.assertIs(crowd.bears([]), True)
        self.assertIs(crowd.bears([1, 1]), False)
        self.assertIs(crowd.bears((0, 0, 0, 0)), False)
        for row, kind in [(5, -1), ("00", -1), (None, -1), ((0, 2, 7), 2), ([1, 1, 1, -1], -1), ((Ratio(0),), 0)]:
            self.assertEqual(told(crowd.bears, row), ("BadKind", kind))

    def test_fewer(self):
        crowd = Crowd((2, 1))
        self.assertEqual((crowd.fewer(0), crowd.fewer(1), crowd.counts), ((1, 1), (2, 0), (2, 1)))
        for kind in (2, -1, "0", None):
            self.assertEqual(told(crowd.fewer, kind), ("BadKind", kind))


class TestWords(unittest.TestCase):

    def test_words_in_order(self):
        crowds = [crowd for size in (3, 4, 5) for crowd in small_crowds(size)]
        for crowd in crowds + [Crowd((1,)), Crowd((8,)), Crowd((1, 1, 1, 1, 1)), Crowd((1, 1, 1, 1, 1, 1))]:
            first = [kind for kind, count in enumerate(crowd.counts) for _ in range(count)]
            expected = sorted(set(permutations(first)))
            self.assertEqual(list(words_in(crowd)), expected)
            self.assertEqual(crowd.many, len(expected))
            if len(expected) <= 400:
                self.assertEqual(words_of(crowd), expected)
            self.assertEqual([spot_of(crowd, list(word)) for word in expected], list(range(len(expected))))

    def test_each_list_is_new(self):
        crowd = Crowd((2, 1))
        words_of(crowd).clear()
        self.assertEqual(words_of(crowd), [(0, 0, 1), (0, 1, 0), (1, 0, 0)])

    def test_too_many(self):
        for counts in [(2, 1, 1, 1, 1), (5, 1, 1, 1), (4, 3, 1)]:
            self.assertEqual(len(words_of(Crowd(counts))), Crowd(counts).many)
        self.assertEqual(Crowd((2, 1, 1, 1, 1)).many, 360)
        for counts in [(3, 2, 1, 1), (4, 2, 2)]:
            self.assertEqual(told(words_of, Crowd(counts)), ("TooMany", 420))
        big = Crowd((2, 2, 1, 1, 1, 1))
        self.assertEqual(told(words_of, big), ("TooMany", 10080))
        words = list(words_in(big))
        self.assertEqual(len(words), 10080)
        self.assertTrue(all(low < high for low, high in zip(words, words[1:])))
        for number in (0, 1, 399, 5000, 10079):
            self.assertEqual(spot_of(big, words[number]), number)

    def test_wrong_words(self):
        crowd = Crowd((2, 1))
        for word, place in [
            (None, -1), ("001", -1), ((0, 1), -1), ((0, 0, 1, 0), -1), ((9, 9), -1), ((0, 2, -1), 1), ((0, 0, "1"), 2),
            ((1, 1, 3), 2), ((Ratio(0), 0, 1), 0), ((0, 0, 0), -2), ((1, 1, 0), -2), ([1, 1, 1], -2),
        ]:
            self.assertEqual(told(check_word, crowd, word), ("BadWord", place), word)
            self.assertEqual(told(spot_of, crowd, word), ("BadWord", place), word)

    def test_check_word(self):
        word = [0, 1, 0]
        self.assertEqual(check_word(Crowd((2, 1)), word), (0, 1, 0))
        self.assertEqual(word, [0, 1, 0])

    def test_exchanged(self):
        self.assertEqual(exchanged((0, 1, 2), 0, 2), (2, 1, 0))
        word = ["a", None, 7, 7]
        self.assertEqual(exchanged(word, 3, 0), (7, None, 7, "a"))
        self.assertEqual(word, ["a", None, 7, 7])
        self.assertEqual(exchanged((1, 1), 0, 1), (1, 1))
        for wrong in (None, "ab", 5):
            self.assertEqual(told(exchanged, wrong, 9, 9), ("BadWord", -1))
        for u, v, place in [(3, 9, 3), (0, 3, 3), (1, 1, 1), (-1, 0, -1), ("a", 0, "a")]:
            self.assertEqual(told(exchanged, (0, 1, 2), u, v), ("BadPlace", place))
        self.assertEqual(told(exchanged, (), 0, 1), ("BadPlace", 0))

    def test_unlike_pairs(self):
        for crowd in small_crowds(5) + [Crowd((8,)), Crowd((2, 2, 1, 1, 1, 1))]:
            word = next(words_in(crowd))
            many = sum(word[u] != word[v] for u in range(crowd.size) for v in range(u))
            self.assertEqual(unlike_pairs(crowd), many)
