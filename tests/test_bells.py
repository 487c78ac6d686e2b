"""[122], [125]: bells on the one-way ring, and the map of lines that follows them."""

import unittest
from inspect import isgenerator
from itertools import islice, product

from steprows.bells import BellMap, bell_ring, belled, bells_row
from steprows.crowds import Crowd, words_of
from steprows.lines import Lines, all_lines, lines_for, one_way
from steprows.ratios import Ratio
from steprows.runs import moves
from tests.common import BIG_CROWD, Numbers, told
from tests.test_lines import CROWDS, UNFIT

WRONG_PLACES = (3, -1, None, "0", Ratio(1))


def bell_by_hand(size, rows, place):
    """The rows and the place of the bell map by [125], and where each row rang."""
    rows, rang = [list(row) for row in rows], {}
    for r in reversed(range(len(rows))):
        rang[r] = place
        if place in rows[r]:
            before = (place - 1) % size
            if before not in rows[r]:
                rows[r] = sorted([mark for mark in rows[r] if mark != place] + [before])
        else:
            place = (place + 1) % size
    return tuple(tuple(row) for row in rows), place, rang


def key(pair):
    lines, place = pair
    return lines.rows, place


class TestBelled(unittest.TestCase):

    def test_words(self):
        for word, place, expected in [
            ((0, 1, 2), 0, (2, 1, 0)), ((0, 1, 2), 1, (0, 1, 2)), ((2, 1, 0), 1, (1, 2, 0)), ([2, 1, 0], 2, (2, 0, 1)),
            ((1, 1, 0, 0), 1, (1, 1, 0, 0)), ((1, 1, 0, 0), 2, (1, 0, 1, 0)), ((0, 0, 0, 5), 0, (5, 0, 0, 0)),
            ((5,) * 8, 3, (5,) * 8), ((5, 4) * 4, 7, (5, 4, 5, 4, 5, 4, 4, 5)), ((0, 0, 0), 0, (0, 0, 0)),
        ]:
            self.assertEqual(belled(word, place), expected)
            self.assertIsInstance(belled(word, place), tuple)

    def test_against_the_one_way_run(self):
        for crowd in CROWDS:
            run, n = one_way(crowd), crowd.size
            for word in words_of(crowd):
                there = {tie: other for tie, other, _ in moves(run, crowd, word)}
                for i in range(n):
                    tie = tuple(sorted(((i - 1) % n, i)))
                    self.assertEqual(belled(word, i), there.get(tie, word))

    def test_wrong_ones_in_order(self):
        for word, place in [
            (None, -1), ("012", -1), ((0, 9), -1), ((0,) * 9, -1), ((0, 6, 9), 1), ((0, 1, -1), 2), ((None, 1, 2), 0),
            ({0: 1, 1: 2, 2: 3}, -1), ((0, 1, Ratio(1)), 2),
        ]:
            self.assertEqual(told(belled, word, 99), ("BadWord", place), word)
        for place in WRONG_PLACES:
            self.assertEqual(told(belled, (0, 1, 2), place), ("BadPlace", place))
        self.assertIsNone(told(belled, (0, 1, 2, 0), 3))


class TestBellMap(unittest.TestCase):

    def test_against_each_row(self):
        for crowd in CROWDS:
            n = crowd.size
            bell_map = BellMap(crowd)
            self.assertEqual(bell_map.crowd, crowd)
            images = set()
            for lines, i in product(all_lines(crowd), range(n)):
                found = bell_map(lines, i)
                self.assertIsInstance(found, tuple)
                fresh, place = found
                rows, end, rang = bell_by_hand(n, lines.rows, i)
                self.assertEqual((fresh, place), (Lines(crowd, rows), end))
                self.assertEqual(fresh.read(), belled(lines.read(), i))
                for r, j in rang.items():
                    self.assertEqual(fresh.row_word(r), belled(lines.row_word(r), j))
                self.assertEqual(bell_map.back(fresh, place), (lines, i))
                images.add(key(found))
            # One to one: each pair is reached.
            self.assertEqual(len(images), len(all_lines(crowd)) * n)

    def test_many_kinds(self):
        numbers = Numbers(9)
        for crowd in (BIG_CROWD, Crowd((1, 2, 1, 2, 2)), Crowd((1,) * 6)):
            bell_map = BellMap(crowd)
            for _ in range(100):
                rows = [sorted(numbers.shuffled(range(crowd.size))[:size]) for size in Lines.sizes(crowd)]
                lines, i = Lines(crowd, rows), numbers.below(crowd.size)
                fresh, place = bell_map(lines, i)
                self.assertEqual((fresh.rows, place), bell_by_hand(crowd.size, rows, i)[:2])
                self.assertEqual(fresh.read(), belled(lines.read(), i))
                self.assertEqual(bell_map.back(fresh, place), (lines, i))
                self.assertEqual(bell_map(*bell_map.back(lines, i)), (lines, i))

    def test_the_place_before_is_the_last_one(self):
        crowd = Crowd((1, 2))
        fresh, place = BellMap(crowd)(Lines(crowd, [[0]]), 0)
        self.assertEqual((fresh.rows, place), (((2,),), 0))
        fresh, place = BellMap(crowd)(Lines(crowd, [[0]]), 2)
        self.assertEqual((fresh.rows, place), (((0,),), 0))
        crowd = Crowd((2, 1))
        fresh, place = BellMap(crowd)(Lines(crowd, [[0, 2]]), 0)
        self.assertEqual((fresh.rows, place), (((0, 2),), 0))
        self.assertEqual(BellMap(crowd).back(Lines(crowd, [[0, 2]]), 0), (Lines(crowd, [[0, 2]]), 0))

    def test_wrong_ones_in_order(self):
        for crowd in UNFIT:
            self.assertEqual(told(BellMap, crowd), ("Unfit",))
        crowd = Crowd((1, 1, 1))
        bell_map, lines = BellMap(crowd), Lines(crowd, [[0], [0, 1]])
        other = Lines(Crowd((2, 1)), [[0, 1]])
        for call in (bell_map, bell_map.back):
            self.assertEqual(told(call, other, 99), ("Unfit",))
            self.assertEqual(told(call, Lines(Crowd((1, 2)), [[0]]), 0), ("Unfit",))
            for place in WRONG_PLACES:
                self.assertEqual(told(call, lines, place), ("BadPlace", place))
            self.assertIsNone(told(call, Lines(Crowd([1, 1, 1]), [[0], [0, 1]]), 2))


class TestBellRing(unittest.TestCase):

    def test_comes_back(self):
        seen = set()
        for crowd in CROWDS:
            bell_map = BellMap(crowd)
            left = {key((lines, i)): (lines, i) for lines in all_lines(crowd) for i in range(crowd.size)}
            # Each pair is on one ring only, and the rings hold them all.
            while left:
                start = next(iter(left.values()))
                ring = list(bell_ring(*start))
                self.assertEqual(ring[0], start)
                for pair, after in zip(ring, ring[1:] + ring[:1]):
                    self.assertEqual(bell_map(*pair), after)
                self.assertEqual(len({key(pair) for pair in ring}), len(ring))
                for pair in ring:
                    del left[key(pair)]
                seen.add(len(ring))
        self.assertLess(3, len(seen))

    def test_at_most_5000(self):
        crowd = Crowd((1, 1, 1, 1, 2, 2))
        lines = lines_for(crowd, (5, 4, 3, 2, 1, 0, 4, 5))
        ring = list(bell_ring(lines, 3))
        self.assertEqual(len(ring), 5000)
        self.assertEqual(BellMap(crowd)(*ring[4998]), ring[4999])
        self.assertNotEqual(key(BellMap(crowd)(*ring[4999])), key(ring[0]))

    def test_it_is_a_generator(self):
        lines = Lines(Crowd((1, 2)), [[0]])
        ring = bell_ring(lines, 0)
        self.assertEqual(next(ring), (lines, 0))
        self.assertEqual([place for _, place in islice(ring, 2)], [0, 1])
        self.assertTrue(isgenerator(bell_ring(lines, 0)))

    def test_wrong_ones_when_it_begins(self):
        lines = Lines(Crowd((1, 2)), [[0]])
        for place in WRONG_PLACES:
            ring = bell_ring(lines, place)
            self.assertEqual(told(next, ring), ("BadPlace", place))


class TestBellsRow(unittest.TestCase):

    def test_against_single_bells(self):
        numbers = Numbers(11)
        for crowd in CROWDS + [BIG_CROWD]:
            lines = Lines(crowd, [list(range(size)) for size in Lines.sizes(crowd)])
            places = [numbers.below(crowd.size) for _ in range(30)]
            found = bells_row(lines, places)
            self.assertIsInstance(found, list)
            expected = [lines]
            for place in places:
                expected.append(BellMap(crowd)(expected[-1], place)[0])
            self.assertEqual(found, expected)
            word = lines.read()
            for place, after in zip(places, found[1:]):
                word = belled(word, place)
                self.assertEqual(after.read(), word)
        self.assertEqual(bells_row(lines, ()), [lines])

    def test_the_same_place_again(self):
        lines = Lines(Crowd((1, 2)), [[1]])
        self.assertEqual([one.rows for one in bells_row(lines, (1, 1, 0))], [((1,),), ((0,),), ((0,),), ((2,),)])

    def test_wrong_ones_in_order(self):
        lines = Lines(Crowd((1, 2)), [[0]])
        for places, place in [
            (None, -1), ("01", -1), ({0: 0}, -1), ([0, 3, 9], 3), ((0, 0, -1), -1), ([None, 9], None), ([2, 2, "0"], "0"),
            ([0, 1, Ratio(1)], Ratio(1)),
        ]:
            self.assertEqual(told(bells_row, lines, places), ("BadPlace", place))
