"""[9], [16], [20]: ratio tables and the products of walks."""

import unittest
from itertools import product

from steprows.crowds import crowd_of
from steprows.ratios import Ratio
from steprows.rounds import is_kept
from steprows.tables import RatioTable, product_of, table_of
from steprows.walks import led, six_walk
from steprows.webs import Web
from tests.common import BIG_CROWD, all_ratios, fraction, some_table, some_webs, told

HALF = Ratio(1, 2)


class TestMaking(unittest.TestCase):

    def test_attributes(self):
        table = RatioTable(Web.row(3), 2, [[[1, 2], (HALF, 1)], ([1, Ratio(2, 3)], [Ratio(3, 2), Ratio(1)])])
        self.assertEqual((table.web, table.kinds), (Web.row(3), 2))
        self.assertEqual(table.entries, (((1, 2), (HALF, 1)), ((1, Ratio(2, 3)), (Ratio(3, 2), 1))))
        self.assertTrue(all_ratios(table.entries))

    def test_kinds(self):
        for kinds in (1, 7, 0, "2", None, Ratio(2)):
            for make in (RatioTable, table_of):
                self.assertEqual(told(make, Web.row(3), kinds, None), ("BadNumber", "kinds"))
            self.assertEqual(told(RatioTable.even, Web.row(3), kinds), ("BadNumber", "kinds"))

    def test_wrong_entries(self):
        good = [[1, 2], [HALF, 1]]
        for entries, place in [
            (None, -1), ([], -1), ([good], -1), ([good] * 3, -1), ([None] * 3, -1), ("ab", -1), ([good, None], 1),
            ([good, [[1, 1]]], 1), ([good, [[1, 1, 1], [1, 1, 1]]], 1), ([good, [[1, 1], 5]], 1),
            ([[[1, 2], [1, 1]], None], 0), ([good, [[2, 1], [1, 1]]], 1), ([good, [[1, 1], [1, HALF]]], 1),
            ([good, [[1, -1], [-1, 1]]], 1), ([good, [[-1, 1], [1, -1]]], 1), ([good, [[1, 0], [0, 1]]], 1),
            ([[[1, "1"], [1, 1]], good], 0), ([good, [[1, 1.0], [1, 1]]], 1),
        ]:
            self.assertEqual(told(RatioTable, Web.row(3), 2, entries), ("BadTable", place), entries)

    def test_three_kinds_need_each_inverse(self):
        good = [[1, 2, 3], [HALF, 1, 5], [Ratio(1, 3), Ratio(1, 5), 1]]
        self.assertIsNone(told(RatioTable, Web.row(3), 3, [good, good]))
        for a, b in product(range(3), repeat=2):
            wrong = [list(row) for row in good]
            wrong[a][b] = 7
            self.assertEqual(told(RatioTable, Web.row(3), 3, [good, wrong]), ("BadTable", 1))

    def test_the_entries_passed_are_not_kept(self):
        one = [[1, 2], [HALF, 1]]
        entries = [one, one]
        table = RatioTable(Web.row(3), 2, entries)
        one[0][1] = 9
        entries.pop()
        self.assertEqual(table.entries, (((1, 2), (HALF, 1)),) * 2)

    def test_even_and_flat(self):
        for web in some_webs(4):
            for kinds in (2, 3, 6):
                even = RatioTable.even(web, kinds)
                self.assertEqual((even.web, even.kinds, len(even.entries)), (web, kinds, len(web)))
                self.assertTrue(all_ratios(even.entries))
                self.assertEqual({entry.told() for table in even.entries for row in table for entry in row}, {"1"})
                self.assertIs(even.flat, True)
        self.assertIs(table_of(Web.row(3), 3, [[1, 1, 1], [1, 1, 2]]).flat, False)
        self.assertIs(table_of(Web.row(3), 3, [[HALF, 1, 1], [1, 1, 1]]).flat, False)

    def test_table_of(self):
        table = table_of(Web.row(3), 3, ([2, HALF, 5], (1, Ratio(3, 4), 7)))
        self.assertEqual(table, RatioTable(Web.row(3), 3, [
            [[1, 2, HALF], [HALF, 1, 5], [2, Ratio(1, 5), 1]],
            [[1, 1, Ratio(3, 4)], [1, 1, 7], [Ratio(4, 3), Ratio(1, 7), 1]],
        ]))
        self.assertTrue(all_ratios(table.entries))
        self.assertEqual(table_of(Web.row(3), 6, [range_row(15)] * 2).at(0, 1, 4, 5), 15)
        self.assertEqual(table_of(Web.row(3), 6, [range_row(15)] * 2).at(0, 1, 1, 2), 6)

    def test_wrong_uppers(self):
        for uppers, place in [
            (None, -1), ([], -1), ([[1, 1, 1]], -1), ([[1, 1, 1]] * 3, -1), ([5] * 3, -1), ([[1, 1, 1], None], 1),
            ([[1, 1], [1, 1, 1]], 0), ([[1, 1, 1], [1, 1, 1, 1]], 1), ([[1, 0, 1], None], 0),
            ([[1, 1, 1], [1, 1, -2]], 1), ([[1, 1, 1], ["1", 1, 1]], 1), ([(1, 1, 1), (1, 1.5, 1)], 1),
        ]:
            self.assertEqual(told(table_of, Web.row(3), 3, uppers), ("BadTable", place), uppers)


def range_row(many):
    return list(range(1, many + 1))


class TestAsking(unittest.TestCase):

    def test_entries_and_turns_from_either_end(self):
        for web in some_webs(4):
            table = some_table(web, 3)
            for number, (u, v) in enumerate(web.ties):
                entry = table.entries[number]
                for a, b, c in product(range(3), repeat=3):
                    self.assertEqual((table.at(u, v, a, b), table.at(v, u, b, a)), (entry[a][b], entry[a][b]))
                    self.assertIsInstance(table.at(v, u, a, b), Ratio)
                    turn = fraction(entry[a][b]) * fraction(entry[b][c]) * fraction(entry[c][a])
                    self.assertEqual(fraction(table.turn(u, v, a, b, c)), turn)
                    self.assertEqual(fraction(table.turn(v, u, a, b, c)), 1 / turn)
                    if len({a, b, c}) < 3:
                        self.assertEqual(table.turn(u, v, a, b, c), 1)

    def test_wrong_places_and_kinds(self):
        table = RatioTable.even(Web.row(4), 3)
        for more in ((), (7,)):
            call = table.turn if more else table.at
            self.assertEqual(told(call, 4, 9, 7, 7, *more), ("BadPlace", 4))
            self.assertEqual(told(call, 1, 1, 7, 7, *more), ("BadPlace", 1))
            self.assertEqual(told(call, 2, 0, 7, 7, *more), ("NoTie", 2, 0))
            self.assertEqual(told(call, 1, 0, 3, 7, *more), ("BadKind", 3))
            self.assertEqual(told(call, 1, 0, 1, -1, *more), ("BadKind", -1))
        self.assertEqual(told(table.turn, 1, 0, 1, 1, 3), ("BadKind", 3))
        self.assertEqual(told(table.turn, 1, 0, 0, "1", 3), ("BadKind", "1"))

    def test_products_and_inverses(self):
        for web in some_webs(4):
            one = some_table(web, 3, seed=3)
            other = some_table(web, 3, seed=4)
            both = one * other
            back = one.inverse()
            for (u, v), a, b in product(web.ties, range(3), range(3)):
                self.assertEqual(both.at(u, v, a, b), one.at(u, v, a, b) * other.at(u, v, a, b))
                self.assertEqual(back.at(u, v, a, b), one.at(u, v, b, a))
            self.assertIs((one * back).flat, True)
            self.assertEqual(back.inverse(), one)
            self.assertEqual(one, some_table(web, 3, seed=3))
        for other in (RatioTable.even(Web.star(3), 2), RatioTable.even(Web.row(3), 3), RatioTable.even(Web.ring(3), 2)):
            self.assertEqual(told(lambda: RatioTable.even(Web.row(3), 2) * other), ("Unfit",))

    def test_equality(self):
        table = some_table(Web.row(3), 2)
        self.assertTrue(table == RatioTable(Web.row(3), 2, table.entries))
        self.assertFalse(table == table * table)
        self.assertFalse(RatioTable.even(Web.row(3), 2) == RatioTable.even(Web.star(3), 2))
        self.assertFalse(RatioTable.even(Web.row(3), 2) == RatioTable.even(Web.row(3), 3))
        for other in (table.entries, None, 1, Web.row(3)):
            self.assertIs(table == other, False)


class TestProductOf(unittest.TestCase):

    def test_example(self):
        table = table_of(Web.row(3), 3, [[2, 2, 2], [1, 1, 1]])
        walk = six_walk(Web.row(3), (0, 1, 2), (0, 1, 2))
        self.assertEqual([is_kept(table, crowd_of(1, 1, 1)), product_of(table, walk).told()], [False, "2"])

    def test_step_by_step(self):
        table = table_of(Web.row(3), 3, [[2, 3, 5], [7, 11, 13]])
        for walk, expected in [
            ([[0, 1, 2]], "1"), (((2, 2, 2),), "1"), (((0, 1, 2), (1, 0, 2)), "2"), ([(1, 0, 2), [0, 1, 2]], "1/2"),
            (((0, 1, 2), (0, 2, 1), (2, 0, 1), (2, 1, 0)), "273"), (((0, 2, 2), (2, 0, 2), (2, 2, 0)), "33"),
        ]:
            found = product_of(table, walk)
            self.assertEqual(found.told(), expected)
            self.assertIsInstance(found, Ratio)

    def test_long_walks(self):
        web = Web.ring(8)
        word = (0, 0, 1, 1, 2, 3, 4, 5)
        walk = led(web, BIG_CROWD, word, word[::-1])
        table = some_table(web, 6)
        self.assertEqual(product_of(table, walk) * product_of(table, walk[::-1]), 1)
        self.assertEqual(product_of(RatioTable.even(web, 6), walk), 1)

    def test_no_walks(self):
        table = RatioTable.even(Web.row(3), 3)
        for words in [
            None, (), (0, 1, 2), [(0, 1)], [(0, 1, 3)], [(0, 1, 2), (2, 1, 0)], [(0, 1, 2), (0, 1, 2)],
            [(0, 1, 2), (1, 0, 2), (1, 0, 3)],
        ]:
            self.assertEqual(told(product_of, table, words), ("BadWord", -1), words)
