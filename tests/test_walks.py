"""[11], [12]: walks."""

import unittest
from itertools import permutations

from steprows.crowds import Crowd, words_of
from steprows.ratios import Ratio
from steprows.walks import is_walk, led, round_walk, six_walk, square
from steprows.webs import Web
from tests.common import BIG_CROWD, all_rings, renamed, small_crowds, some_webs, told, walked, words_from


def is_plain_walk(web, words):
    """What [11] asks of a row of words, step by step."""
    for before, after in zip(words, words[1:]):
        unlike = [place for place in range(web.size) if before[place] != after[place]]
        if len(unlike) != 2 or tuple(unlike) not in web.ties:
            return False
        u, v = unlike
        if (before[u], before[v]) != (after[v], after[u]):
            return False
    return True


class TestIsWalk(unittest.TestCase):

    def test_two_words(self):
        for web in some_webs(3):
            words = words_from(3, 3)
            for before in words:
                for after in words:
                    self.assertIs(is_walk(web, (before, after)), is_plain_walk(web, (before, after)))

    def test_lists_and_tuples(self):
        web = Web.row(3)
        self.assertIs(is_walk(web, [[0, 1, 5]]), True)
        self.assertIs(is_walk(web, ([0, 1, 5], (1, 0, 5), [1, 5, 0])), True)
        self.assertIs(is_walk(web, [(0, 1, 5), (1, 0, 5), (1, 5, 0), (1, 0, 5)]), True)

    def test_false_for_anything_else(self):
        web = Web.row(3)
        for words in [
            None, 5, "abc", (), [], (0, 1, 2), [None], ["012"], [(0, 1)], [(0, 1, 2, 3)], [(0, 1, 6)], [(0, -1, 1)],
            [(0, 1, "2")], [(0, 1, Ratio(2))], [(0, 1, 2), (0, 1, 2)], [(0, 1, 2), (2, 1, 0)], [(0, 1, 2), (1, 0, 3)],
            [(0, 1, 2), (1, 2, 0)], [(0, 0, 1), (0, 0, 1)], [(0, 1, 2), (1, 0, 2), None], {(0, 1, 2): True},
        ]:
            self.assertIs(is_walk(web, words), False, words)


class TestSixWalk(unittest.TestCase):

    def test_example(self):
        self.assertEqual(six_walk(Web.row(3), (0, 1, 2), (0, 1, 2)), (
            (0, 1, 2), (1, 0, 2), (1, 2, 0), (2, 1, 0), (2, 0, 1), (0, 2, 1), (0, 1, 2),
        ))

    def test_all_corners(self):
        for web in some_webs(4):
            for v in range(4):
                for u, s in permutations(web.near(v), 2):
                    for word in [(0, 1, 2, 3), [5, 3, 5, 0], (2, 2, 1, 0)]:
                        if len({word[u], word[v], word[s]}) < 3:
                            continue
                        walk = six_walk(web, word, [u, v, s])
                        self.assertEqual(walk, walked(word, [(u, v), (v, s)] * 3))
                        self.assertEqual((len(walk), len(set(walk)), walk[-1]), (7, 6, walk[0]))
                        self.assertIs(is_walk(web, walk), True)

    def test_wrong_ones(self):
        web = Web.row(4)
        for word, place in [(None, -1), ("0123", -1), ((0, 1, 2), -1), ((0, 6, -1, 2), 1), ((0, 1, 2, "3"), 3)]:
            self.assertEqual(told(six_walk, web, word, None), ("BadWord", place))
        word = (0, 1, 2, 2)
        for places in (None, (0, 1), (0, 1, 2, 3), 7, "012"):
            self.assertEqual(told(six_walk, web, word, places), ("BadPlace", -1))
        for places, place in [((0, 4, 9), 4), ((0, 1, 0), 0), ((2, 2, 7), 2), ((0, 2, 2), 2), ((0, 1, "2"), "2")]:
            self.assertEqual(told(six_walk, web, word, places), ("BadPlace", place))
        self.assertEqual(told(six_walk, web, word, (0, 2, 3)), ("NoTie", 0, 2))
        self.assertEqual(told(six_walk, web, word, (0, 1, 3)), ("NoTie", 1, 3))
        self.assertEqual(told(six_walk, web, word, (2, 0, 3)), ("NoTie", 2, 0))
        self.assertEqual(told(six_walk, web, word, (1, 2, 3)), ("BadKind", 2))
        self.assertEqual(told(six_walk, web, (1, 0, 1, 2), (0, 1, 2)), ("BadKind", 1))
        self.assertEqual(told(six_walk, web, (3, 3, 1, 2), (0, 1, 2)), ("BadKind", 3))
        self.assertEqual(told(six_walk, web, (3, 3, 3, 2), (0, 1, 2)), ("BadKind", 3))


class TestRoundWalk(unittest.TestCase):

    def test_example(self):
        self.assertEqual(round_walk(Web.ring(3), (0, 1, 0), (0, 1, 2)), ((0, 1, 0), (1, 0, 0), (0, 0, 1), (0, 1, 0)))

    def test_all_rings(self):
        for web in some_webs(4):
            for ring in all_rings(web):
                for word in [(0, 1, 2, 3), (0, 1, 0, 1), (4, 5, 5, 5), (1, 1, 0, 2)]:
                    if word[ring[0]] == word[ring[1]]:
                        continue
                    walk = round_walk(web, list(word), list(ring))
                    there = list(zip(ring, ring[1:]))
                    back = [(ring[-1], ring[0])] + [(ring[at + 1], ring[at]) for at in range(len(ring) - 2, 0, -1)]
                    self.assertEqual(walk, walked(word, there + back))
                    self.assertEqual(walk[0], walk[-1])
                    self.assertLessEqual(len(walk), 2 * (len(ring) - 1) + 1)
                    self.assertIs(is_walk(web, walk), True)
                    self.assertEqual(round_walk(web, word, ring, turned=True), walk[::-1])
                    self.assertEqual(round_walk(web, word, ring, turned=False), walk)

    def test_most_steps(self):
        walk = round_walk(Web.ring(6), (0, 1, 2, 3, 4, 5), (3, 2, 1, 0, 5, 4))
        self.assertEqual(len(walk), 11)
        self.assertEqual(walk[1:6], (
            (0, 1, 3, 2, 4, 5), (0, 3, 1, 2, 4, 5), (3, 0, 1, 2, 4, 5), (5, 0, 1, 2, 4, 3), (5, 0, 1, 2, 3, 4),
        ))

    def test_turned_is_passed_by_name(self):
        with self.assertRaises(TypeError):
            round_walk(Web.ring(3), (0, 1, 0), (0, 1, 2), True)

    def test_wrong_ones(self):
        web = Web.ring(5)
        for word, place in [(None, -1), ((0, 1, 2, 3), -1), ((0, 1, 2, 6, 7), 3)]:
            self.assertEqual(told(round_walk, web, word, None), ("BadWord", place))
        word = (0, 0, 2, 3, 4)
        for ring in (None, (0, 1), (), 3, "01234"):
            self.assertEqual(told(round_walk, web, word, ring), ("BadPlace", -1))
        for ring, place in [((0, 5, 9), 5), ((0, 1, 0), 0), ((3, 1, 4, -1), -1), ((0, 2, 2), 2), ((0, 1, None), None)]:
            self.assertEqual(told(round_walk, web, word, ring), ("BadPlace", place))
        self.assertEqual(told(round_walk, web, word, (0, 1, 3, 4)), ("NoTie", 1, 3))
        self.assertEqual(told(round_walk, web, word, (0, 2, 4)), ("NoTie", 0, 2))
        self.assertEqual(told(round_walk, web, word, (0, 1, 2)), ("NoTie", 2, 0))
        self.assertEqual(told(round_walk, web, word, (0, 1, 2, 3, 4)), ("BadKind", 0))
        self.assertEqual(told(round_walk, web, word, [1, 0, 4, 3, 2], turned=True), ("BadKind", 0))


class TestSquare(unittest.TestCase):

    def test_all_squares(self):
        for web in some_webs(5):
            for one in web.ties:
                for other in web.ties:
                    if set(one) & set(other):
                        continue
                    for tie, more in [(one, other), (one[::-1], other), (one, other[::-1])]:
                        walk = square(web, [0, 1, 2, 3, 4], tie, more)
                        self.assertEqual(walk, walked((0, 1, 2, 3, 4), [tie, more, tie, more]))
                        self.assertEqual((len(walk), len(set(walk)), walk[-1]), (5, 4, (0, 1, 2, 3, 4)))
                        self.assertIs(is_walk(web, walk), True)

    def test_wrong_ones(self):
        web = Web.row(5)
        word = (0, 0, 1, 1, 2)
        self.assertEqual(told(square, web, (0, 1), (9, 9), (0, 1)), ("BadWord", -1))
        self.assertEqual(told(square, web, (0, 1, 9, 8, 0), (9, 9), (0, 1)), ("BadWord", 2))
        for tie, more, wrong in [
            ((5, 9), (7, 7), ("BadPlace", 5)), ((1, 1), (0, 1), ("BadPlace", 1)), ((0, 2), (9, 1), ("NoTie", 0, 2)),
            ((0, 1), (2, 8), ("BadPlace", 8)), ((0, 1), (0, 2), ("NoTie", 0, 2)), ((3, 4), (4, 2), ("NoTie", 4, 2)),
            ((0, 1), (1, 2), ("BadPlace", 1)), ((1, 2), (3, 2), ("BadPlace", 2)), ((0, 1), (1, 0), ("BadPlace", 1)),
            ((1, 0), (2, 3), ("BadKind", 0)), ((3, 2), (0, 1), ("BadKind", 1)), ((1, 2), (3, 4), None),
            ((3, 4), (1, 0), ("BadKind", 0)),
        ]:
            self.assertEqual(told(square, web, word, tie, more), wrong, (tie, more))


class TestLed(unittest.TestCase):

    def check(self, web, crowd, word, other):
        walk = led(web, crowd, list(word), list(other))
        self.assertEqual((walk[0], walk[-1]), (tuple(word), tuple(other)))
        self.assertTrue(isinstance(walk, tuple) and all(isinstance(one, tuple) for one in walk))
        self.assertIs(is_walk(web, walk), True)

    def test_any_two_words(self):
        for size in (3, 4):
            for web in some_webs(size):
                for crowd in small_crowds(size):
                    words = words_of(crowd)
                    for word in words:
                        for other in words:
                            self.check(web, crowd, word, other)
                        self.assertEqual(led(web, crowd, word, word), (word,))

    def test_many_words(self):
        word = (0, 0, 1, 1, 2, 3, 4, 5)
        tree = Web(8, [(0, 7), (1, 2), (1, 7), (2, 4), (2, 5), (3, 7), (6, 7)])
        row = renamed(Web.row(8), (3, 6, 0, 7, 2, 1, 5, 4))
        for web in [Web.row(8), Web.ring(8), Web.star(8), Web.full(8), tree, row]:
            for other in [word[::-1], (5, 0, 4, 1, 3, 0, 2, 1), (1, 1, 0, 0, 5, 4, 3, 2)]:
                self.check(web, BIG_CROWD, word, other)

    def test_wrong_ones(self):
        web = Web.row(3)
        crowd = Crowd((2, 1))
        self.assertEqual(told(led, web, Crowd((2, 2)), None, None), ("Unfit",))
        self.assertEqual(told(led, web, Crowd((3,)), (0, 0, 0), (0, 0, 0)), ("Unfit",))
        self.assertEqual(told(led, web, crowd, (0, 1), (9, 9)), ("BadWord", -1))
        self.assertEqual(told(led, web, crowd, (1, 0, 2), None), ("BadWord", 2))
        self.assertEqual(told(led, web, crowd, (1, 1, 0), (0, 9, 0)), ("BadWord", -2))
        self.assertEqual(told(led, web, crowd, (1, 0, 0), (0, 9, 0)), ("BadWord", 1))
        self.assertEqual(told(led, web, crowd, (1, 0, 0), (1, 1, 0)), ("BadWord", -2))
