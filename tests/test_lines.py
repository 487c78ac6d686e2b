"""[121] to [124]: lines of marks on the one-way ring, and their words."""

import unittest
from itertools import combinations, product
from math import comb

from steprows.crowds import Crowd, words_of
from steprows.lines import Lines, all_lines, lines_for, lines_many, one_way
from steprows.ratios import Ratio
from steprows.runs import Run
from steprows.webs import Web
from tests.common import BIG_CROWD, Numbers, small_crowds, told

CROWDS = [
    Crowd((2, 1)), Crowd((1, 2)), Crowd((1, 1, 1)), Crowd((3, 1)), Crowd((2, 2)), Crowd((1, 2, 1)), Crowd((2, 1, 1)),
    Crowd((1, 1, 2)), Crowd((1, 1, 1, 1)), Crowd((2, 2, 1)), Crowd((3, 2)), Crowd((1, 3, 1)),
]
UNFIT = [Crowd((3,)), Crowd((1, 1)), Crowd((2,)), Crowd((1,)), Crowd((8,))]


def rows_by_hand(crowd):
    """The rows of all lines of the crowd in order."""
    sizes = [sum(crowd.counts[:r]) for r in range(1, crowd.kinds)]
    return list(product(*[list(combinations(range(crowd.size), size)) for size in sizes]))


def read_by_hand(size, rows, numbers=None):
    """The word of the rows by [124], the walkers of one kind in any order."""
    word = [0 if place in rows[0] else 1 for place in range(size)]
    for r in range(1, len(rows)):
        held = {}
        for kind in range(r):
            walkers = [place for place in range(size) if word[place] == kind]
            for start in numbers.shuffled(walkers) if numbers else walkers:
                place = start
                while place not in rows[r] or place in held:
                    place = (place + 1) % size
                held[place] = kind
        word = [held.get(place, r) if place in rows[r] else r + 1 for place in range(size)]
    return tuple(word)


class TestLines(unittest.TestCase):

    def test_attributes(self):
        crowd = Crowd((1, 2, 1))
        rows = [[3], (0, 1, 2)]
        lines = Lines(crowd, rows)
        self.assertEqual((lines.crowd, lines.rows), (crowd, ((3,), (0, 1, 2))))
        rows[0][0] = 9
        self.assertEqual(lines.rows, ((3,), (0, 1, 2)))
        self.assertEqual(Lines(Crowd((1, 2)), ([2],)).rows, ((2,),))

    def test_sizes_and_number(self):
        for crowd in CROWDS + [BIG_CROWD]:
            sizes = tuple(sum(crowd.counts[:r + 1]) for r in range(crowd.kinds - 1))
            self.assertEqual(Lines.sizes(crowd), sizes)
            many = 1
            for size in sizes:
                many *= comb(crowd.size, size)
            self.assertEqual(lines_many(crowd), many)
        self.assertEqual(lines_many(BIG_CROWD), 28 * 70 * 56 * 28 * 8)

    def test_equal(self):
        one = Lines(Crowd((1, 1, 1)), [[0], [0, 1]])
        self.assertEqual(one, Lines(Crowd([1, 1, 1]), ((0,), (0, 1))))
        for other in (
            Lines(Crowd((1, 1, 1)), [[1], [0, 1]]), Lines(Crowd((1, 1, 1)), [[0], [0, 2]]),
            Lines(Crowd((1, 1, 2)), [[0], [0, 1]]), Lines(Crowd((2, 1)), [[0, 1]]), one.rows, None, 0,
        ):
            self.assertFalse(one == other)

    def test_wrong_ones_in_order(self):
        for crowd in UNFIT:
            self.assertEqual(told(Lines, crowd, None), ("Unfit",))
            for call in (Lines.sizes, lines_many, all_lines, one_way):
                self.assertEqual(told(call, crowd), ("Unfit",))
            self.assertEqual(told(lines_for, crowd, None), ("Unfit",))
        crowd = Crowd((1, 2, 1))
        good = [0, 1, 2]
        for rows, place in [
            (None, -1), ("01", -1), ([], -1), ([[0]], -1), ([[9], good, good], -1), ([[0], good, []], -1),
            ({0: [0], 1: good}, -1), ([None, [1]], 0), ([[0], None], 1), ([[4], good], 0), ([[], good], 0),
            ([[0, 1], good], 0), ([[-1], good], 0), (["0", good], 0), ([[0], [0, 1]], 1), ([[0], [0, 1, 2, 3]], 1),
            ([[0], [0, 1, 1]], 1), ([[0], [1, 0, 2]], 1), ([[0], [0, 2, 1]], 1), ([[0], [1, 2, 4]], 1),
            ([[0], [0, 1, None]], 1), ([[0], [0, 1, Ratio(2)]], 1), ([[3], [2, 2, 3]], 1), ([["0"], [9]], 0),
        ]:
            self.assertEqual(told(Lines, crowd, rows), ("BadRow", place), rows)

    def test_class_method_needs_no_object(self):
        self.assertEqual(Lines(Crowd((2, 1)), [[0, 1]]).sizes(Crowd((1, 1, 1))), (1, 2))


class TestAllLines(unittest.TestCase):

    def test_in_order(self):
        for crowd in CROWDS:
            found = all_lines(crowd)
            self.assertIsInstance(found, list)
            self.assertTrue(all(isinstance(lines, Lines) and lines.crowd == crowd for lines in found))
            self.assertEqual([lines.rows for lines in found], rows_by_hand(crowd))
            self.assertEqual(len(found), lines_many(crowd))

    def test_many(self):
        self.assertEqual(len(all_lines(Crowd((1, 1, 1, 1, 1)))), 2500)
        for counts, many in (
            ((2, 2, 2, 1), 21 * 35 * 7), ((1, 1, 1, 1, 2), 6 * 15 * 20 * 15), ((2, 2, 3, 1), 28 * 70 * 8),
            ((1, 1, 1, 4), 7 * 21 * 35),
        ):
            self.assertEqual(lines_many(Crowd(counts)), many)
            self.assertEqual(told(all_lines, Crowd(counts)), ("TooMany", many))

    def test_around_the_bound(self):
        # The crowds on both sides of 3000 lines that come next to it.
        under, over = Crowd((1, 1, 1, 1, 1)), Crowd((4, 1, 2, 1))
        self.assertEqual(lines_many(over), 70 * 56 * 8)
        every = {lines_many(Crowd(counts)): counts for size in range(3, 9) for counts in self.counts_of(size)}
        below = max(many for many in every if many <= 3000)
        above = min(many for many in every if many > 3000)
        self.assertEqual((len(all_lines(Crowd(every[below]))), told(all_lines, Crowd(every[above]))), (below, ("TooMany", above)))
        self.assertLessEqual(lines_many(under), below)

    def counts_of(self, size):
        return [crowd.counts for crowd in small_crowds(size, (2, 3, 4, 5, 6))]


class TestWords(unittest.TestCase):

    def test_against_walkers_in_any_order(self):
        numbers = Numbers(3)
        for crowd in CROWDS:
            for lines in all_lines(crowd):
                word = read_by_hand(crowd.size, lines.rows)
                self.assertEqual(read_by_hand(crowd.size, lines.rows, numbers), word)
                self.assertEqual(lines.read(), word)
                self.assertEqual(tuple(word.count(kind) for kind in range(crowd.kinds)), crowd.counts)
                for r in range(crowd.kinds - 1):
                    self.assertEqual(lines.row_word(r), read_by_hand(crowd.size, lines.rows[:r + 1]))

    def test_many_kinds(self):
        numbers = Numbers(7)
        for crowd in (BIG_CROWD, Crowd((1, 1, 1, 2, 1, 2)), Crowd((3, 3, 2)), Crowd((1, 1, 1, 1, 1, 1))):
            for _ in range(40):
                rows = [sorted(numbers.shuffled(range(crowd.size))[:size]) for size in Lines.sizes(crowd)]
                lines = Lines(crowd, rows)
                self.assertEqual(lines.read(), read_by_hand(crowd.size, rows, numbers))
                self.assertEqual(lines.read(), lines.row_word(crowd.kinds - 2))

    def test_walkers_go_round(self):
        # The walker of kind 0 at 2 finds the mark 0 by way of the place after 2.
        lines = Lines(Crowd((1, 1, 1)), [[2], [0, 1]])
        self.assertEqual((lines.row_word(0), lines.read()), ((1, 1, 0), (0, 1, 2)))

    def test_lines_for_each_word(self):
        for crowd in CROWDS:
            for word in words_of(crowd):
                lines = lines_for(crowd, list(word))
                self.assertIsInstance(lines, Lines)
                self.assertEqual(lines.read(), word)
                self.assertEqual(lines.rows, tuple(
                    tuple(place for place, kind in enumerate(word) if kind <= r) for r in range(crowd.kinds - 1)
                ))
        word = (5, 0, 1, 2, 1, 3, 0, 4)
        self.assertEqual(lines_for(BIG_CROWD, word).read(), word)

    def test_wrong_ones(self):
        lines = Lines(Crowd((1, 2, 1)), [[0], [0, 1, 2]])
        for r in (2, -1, None, "0", Ratio(1)):
            self.assertEqual(told(lines.row_word, r), ("BadRow", r))
        for word, place in [(None, -1), ((0, 1, 2), -1), ((0, 3, 9, 1), 1), ((0, 0, 1, 2), -2), ("0112", -1)]:
            self.assertEqual(told(lines_for, Crowd((1, 2, 1)), word), ("BadWord", place))


class TestOneWay(unittest.TestCase):

    def test_rates(self):
        for crowd in CROWDS + [BIG_CROWD]:
            run = one_way(crowd)
            n = crowd.size
            self.assertIsInstance(run, Run)
            self.assertEqual((run.web, run.kinds, run.filled), (Web.ring(n), crowd.kinds, False))
            for i, a, b in product(range(n), range(crowd.kinds), range(crowd.kinds)):
                self.assertEqual(run.rate((i - 1) % n, i, a, b), 1 if a > b else 0)
