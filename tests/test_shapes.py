"""[4], [5], [6]: shapes, joins, loose webs, rounds."""

import unittest
from itertools import combinations, permutations

from steprows.errors import StepError
from steprows.shapes import is_join, is_loose, is_star, is_tree, loose_by, non_ties, pieces, rounds, shape
from steprows.webs import Web
from tests.common import renamed, some_webs, told


def all_webs(size):
    pairs = list(combinations(range(size), 2))
    for many in range(size - 1, len(pairs) + 1):
        for ties in combinations(pairs, many):
            try:
                yield Web(size, ties)
            except StepError:
                pass


class TestShapes(unittest.TestCase):

    def test_shape(self):
        for web, name in [
            (Web.row(3), "row"), (Web.star(3), "row"), (Web.full(3), "ring"), (Web.ring(8), "ring"),
            (Web.star(4), "threefold"), (Web.full(4), "threefold"), (Web.row(8), "row"),
            (Web.ring(5) + (0, 2), "threefold"), (renamed(Web.row(5), (3, 1, 4, 0, 2)), "row"),
            (renamed(Web.ring(5), (3, 1, 4, 0, 2)), "ring"),
        ]:
            self.assertEqual(shape(web), name)

    def test_non_ties_and_pieces(self):
        self.assertEqual(non_ties(Web.ring(4)), ((0, 2), (1, 3)))
        self.assertEqual(pieces(Web.ring(4)), ((0, 2), (1, 3)))
        self.assertEqual(non_ties(Web.full(3)), ())
        self.assertEqual(pieces(Web.full(3)), ((0,), (1,), (2,)))
        self.assertEqual(pieces(Web.star(4)), ((0,), (1, 2, 3)))
        self.assertEqual(pieces(Web.row(4)), ((0, 1, 2, 3),))
        self.assertEqual(pieces(renamed(Web.star(4), (2, 1, 0, 3))), ((0, 1, 3), (2,)))
        for web in some_webs(5):
            self.assertEqual(non_ties(web), tuple(pair for pair in combinations(range(5), 2) if pair not in web.ties))

    def test_joins_trees_stars(self):
        for web, expected in [
            (Web.row(3), (True, True, True)), (Web.ring(3), (True, False, False)), (Web.row(4), (False, True, False)),
            (Web.ring(4), (True, False, False)), (Web.ring(5), (False, False, False)),
            (Web.star(5), (True, True, True)), (Web.full(4), (True, False, False)),
            (renamed(Web.star(5), (3, 1, 2, 0, 4)), (True, True, True)),
            (Web.star(4) + (1, 2), (True, False, False)),
        ]:
            self.assertEqual((is_join(web), is_tree(web), is_star(web)), expected, web.ties)

    def test_facts_for_all_small_webs(self):
        for size in (3, 4, 5):
            for web in all_webs(size):
                if is_tree(web):
                    self.assertEqual(is_join(web), is_star(web))
                if is_loose(web):
                    self.assertFalse(is_join(web))
                if shape(web) != "threefold":
                    self.assertIs(is_loose(web), size >= 5)


class TestLoose(unittest.TestCase):

    def test_loose_by(self):
        for size in (4, 5, 6):
            for web in some_webs(size):
                for tie in web.ties:
                    for u, v in (tie, tie[::-1]):
                        rest = [place for place in range(size) if place not in tie]
                        some = [
                            (w, t) for w, t in permutations(rest, 2)
                            if (w, v) not in web and (u, t) not in web and (w, t) not in web
                        ]
                        found = loose_by(web, u, v)
                        if some:
                            self.assertIn(found, some)
                        else:
                            self.assertIsNone(found)

    def test_loose_webs(self):
        self.assertTrue(is_loose(Web.row(5)))
        self.assertTrue(is_loose(Web.ring(8)))
        self.assertFalse(is_loose(Web.ring(4)))
        self.assertFalse(is_loose(Web.star(8)))
        tree = Web(7, [(0, 1), (0, 2), (0, 3), (1, 4), (2, 5), (3, 6)])
        self.assertTrue(is_loose(tree))
        # Only the tie (0, 1) has no such two places here.
        self.assertFalse(is_loose(Web(5, [(0, 1), (0, 2), (0, 3), (0, 4), (1, 2)])))

    def test_wrong_places(self):
        web = Web.row(5)
        self.assertEqual(told(loose_by, web, 0, 2), ("NoTie", 0, 2))
        self.assertEqual(told(loose_by, web, 5, 9), ("BadPlace", 5))
        self.assertEqual(told(loose_by, web, 1, 1), ("BadPlace", 1))


class TestRounds(unittest.TestCase):

    def test_examples(self):
        self.assertEqual(rounds(Web.full(3)), ((1, 2, 0),))
        self.assertEqual(rounds(Web.ring(4)), ((2, 3, 0, 1),))
        self.assertEqual(rounds(Web.row(6)), ())
        self.assertEqual(rounds(Web.full(4)), ((1, 2, 0), (1, 3, 0), (2, 3, 0)))

    def test_rounds_of_all_small_webs(self):
        for size in (3, 4, 5):
            for web in all_webs(size):
                tree = []
                for tie in web.ties:
                    if not joined(size, tree, tie):
                        tree.append(tie)
                others = [tie for tie in web.ties if tie not in tree]
                found = rounds(web)
                self.assertEqual([ring[:2] for ring in found], others)
                for ring in found:
                    self.assertEqual(len(set(ring)), len(ring))
                    self.assertGreaterEqual(len(ring), 3)
                    back = list(zip(ring[1:], ring[2:] + ring[:1]))
                    self.assertTrue(all(tuple(sorted(tie)) in tree for tie in back))


def joined(size, ties, pair):
    reached = {pair[0]}
    for _ in range(size):
        for u, v in ties:
            if u in reached or v in reached:
                reached |= {u, v}
    return pair[1] in reached
