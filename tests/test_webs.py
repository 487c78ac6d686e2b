"""[4]: webs."""

import unittest

from steprows.ratios import Ratio
from steprows.webs import Web
from tests.common import some_webs, told


class TestMaking(unittest.TestCase):

    def test_attributes(self):
        web = Web(4, [[0, 1], (0, 2), [2, 3]])
        self.assertEqual((web.size, web.ties), (4, ((0, 1), (0, 2), (2, 3))))
        self.assertTrue(all(isinstance(tie, tuple) for tie in web.ties))
        self.assertEqual(Web.MOST, 8)
        self.assertEqual(Web(3, ((0, 1), [0, 2])), Web(3, [(0, 1), (0, 2)]))

    def test_made_ones(self):
        self.assertEqual(Web.row(4).ties, ((0, 1), (1, 2), (2, 3)))
        self.assertEqual(Web.ring(3).ties, ((0, 1), (0, 2), (1, 2)))
        self.assertEqual(Web.ring(5).ties, ((0, 1), (0, 4), (1, 2), (2, 3), (3, 4)))
        self.assertEqual(Web.star(4).ties, ((0, 1), (0, 2), (0, 3)))
        self.assertEqual(Web.full(4).ties, ((0, 1), (0, 2), (0, 3), (1, 2), (1, 3), (2, 3)))
        for size in (3, 8):
            for make in (Web.row, Web.ring, Web.star, Web.full):
                self.assertEqual(make(size).size, size)

    def test_sizes(self):
        for wrong in (2, 9, 0, -1, "3", None, 3.0, Ratio(3), 10 ** 12):
            for make in (Web.row, Web.ring, Web.star, Web.full):
                self.assertEqual(told(make, wrong), ("BadNumber", "size"))
            self.assertEqual(told(Web, wrong, None), ("BadNumber", "size"))

    def test_wrong_ties(self):
        for size, ties, place in [
            (3, None, -1), (3, "ab", -1), (3, {(0, 1): 1}, -1), (3, Web.row(3), -1),
            (3, [(0, 1), None], 1), (3, [(0, 1), (1, 2, 0)], 1), (3, [(1, 0)], 0), (3, [(0, 0)], 0),
            (3, [(0, 3)], 0), (3, [(-1, 1)], 0), (3, [("0", 1)], 0), (3, [(0, Ratio(1))], 0),
            (3, [(0, 1), (0, 1)], 1), (3, [(0, 2), (0, 1), (1, 2)], 1), (4, [(0, 1), (1, 2), (0, 3), (9, 9)], 2),
            (3, [(0, 1), 5, 6], 1), (3, [], -2), (3, [(0, 1)], -2), (4, [(0, 1), (2, 3)], -2),
            (5, [(0, 1), (0, 2), (1, 2), (3, 4)], -2), (4, [(1, 2), (1, 3), (2, 3)], -2), (4, [(0, 1), (3, 2)], 1),
        ]:
            self.assertEqual(told(Web, size, ties), ("BadWeb", place), ties)

    def test_the_ties_passed_are_not_kept(self):
        ties = [[0, 1], [1, 2]]
        web = Web(3, ties)
        ties.append((0, 2))
        ties[0][1] = 7
        self.assertEqual(web.ties, ((0, 1), (1, 2)))


class TestAsking(unittest.TestCase):

    def test_equality(self):
        self.assertTrue(Web.row(3) == Web(3, [(0, 1), (1, 2)]))
        self.assertFalse(Web.row(3) == Web.star(3))
        self.assertFalse(Web.row(3) == Web.row(4))
        for other in (((0, 1), (1, 2)), 3, None, Ratio(3)):
            self.assertIs(Web.row(3) == other, False)

    def test_length_order_membership(self):
        for size in (3, 4, 5, 8):
            for web in some_webs(size):
                self.assertEqual(len(web), len(web.ties))
                self.assertEqual(tuple(web), web.ties)
                for u in range(-1, size + 1):
                    for v in range(-1, size + 1):
                        self.assertIs((u, v) in web, (u, v) in web.ties or (v, u) in web.ties)

    def test_numbers_and_neighbours(self):
        for web in some_webs(5):
            for number, (u, v) in enumerate(web.ties):
                self.assertEqual((web.number_of(u, v), web.number_of(v, u)), (number, number))
            for place in range(5):
                self.assertEqual(web.near(place), tuple(v for v in range(5) if (place, v) in web))

    def test_wrong_places(self):
        web = Web.row(4)
        self.assertEqual(told(web.number_of, 0, 2), ("NoTie", 0, 2))
        self.assertEqual(told(web.number_of, 2, 0), ("NoTie", 2, 0))
        self.assertEqual(told(web.number_of, 4, 9), ("BadPlace", 4))
        self.assertEqual(told(web.number_of, 1, 9), ("BadPlace", 9))
        self.assertEqual(told(web.number_of, 1, 1), ("BadPlace", 1))
        self.assertEqual(told(web.number_of, -1, -1), ("BadPlace", -1))
        self.assertEqual(told(web.number_of, "a", 1), ("BadPlace", "a"))
        self.assertEqual(told(web.near, 4), ("BadPlace", 4))
        self.assertEqual(told(web.near, None), ("BadPlace", None))

    def test_line(self):
        for web, line in [
            (Web.row(4), (0, 1, 2, 3)), (Web.ring(4), (0, 1, 2, 3)), (Web.star(3), (1, 0, 2)), (Web.star(4), None),
            (Web(5, [(0, 2), (0, 4), (1, 3), (1, 4)]), (2, 0, 4, 1, 3)), (Web.full(3), (0, 1, 2)),
            (Web(5, [(0, 2), (0, 4), (1, 3), (1, 4), (2, 3)]), (0, 2, 3, 1, 4)),
            (Web(4, [(0, 3), (1, 2), (1, 3)]), (0, 3, 1, 2)),
            (Web.full(4), None), (Web.row(5) + (0, 2), None),
        ]:
            self.assertEqual(web.along, line)


class TestMoreAndLess(unittest.TestCase):

    def test_a_tie_more(self):
        web = Web.row(4)
        self.assertEqual(web + (3, 0), Web.ring(4))
        self.assertEqual((web + (0, 3)).ties, ((0, 1), (0, 3), (1, 2), (2, 3)))
        self.assertEqual(web, Web.row(4))
        self.assertEqual(told(lambda: web + (2, 1)), ("BadWeb", 1))
        self.assertEqual(told(lambda: web + (0, 4)), ("BadPlace", 4))
        self.assertEqual(told(lambda: web + (2, 2)), ("BadPlace", 2))
        self.assertEqual(told(lambda: web + (-1, 9)), ("BadPlace", -1))

    def test_a_tie_less(self):
        web = Web.ring(4)
        self.assertEqual(web - (3, 0), Web.row(4))
        self.assertEqual(web, Web.ring(4))
        self.assertEqual(told(lambda: web - (3, 1)), ("NoTie", 3, 1))
        self.assertEqual(told(lambda: web - (3, 3)), ("BadPlace", 3))
        self.assertEqual(told(lambda: web - (8, 3)), ("BadPlace", 8))
        self.assertEqual(told(lambda: Web.row(4) - (1, 2)), ("BadWeb", -2))
