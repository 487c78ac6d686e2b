"""[24], [25], [27]: free numbers, one tie more, crowds whose shares are all local."""

import unittest
from itertools import combinations

from steprows.crowds import Crowd, crowd_of
from steprows.free import all_local, free_numbers, free_of, free_table, spread_to
from steprows.ratios import Ratio
from steprows.rounds import is_kept
from steprows.shapes import shape
from steprows.shares import Shares, local_shares, table_in
from steprows.tables import RatioTable, product_of, table_of
from steprows.webs import Web
from tests.common import (
    BIG_CROWD, Numbers, all_ratios, kept_table, renamed, small_crowds, some_table, some_values, some_webs,
    spread_chances, table_by, told,
)


def free_ones(table):
    """The free numbers as [24] tells them."""
    web, kinds = table.web, table.kinds
    if web.along is None:
        tree, labels = [], list(range(web.size))
        for u, v in web.ties:
            if labels[u] != labels[v]:
                tree.append((u, v))
                labels = [labels[u] if label == labels[v] else label for label in labels]
        return tuple(table.at(u, v, 0, b) for u, v in tree for b in range(1, kinds))
    line = web.along
    found = [table.at(line[0], line[1], a, b) for a, b in combinations(range(kinds), 2)]
    for i in range(1, web.size - 1):
        found += [table.at(line[i], line[i + 1], 0, b) for b in range(1, kinds)]
    return tuple(found)


class TestFreeNumbers(unittest.TestCase):

    def test_counted(self):
        for web in some_webs(4):
            for crowd in small_crowds(4):
                more = 0 if shape(web) == "threefold" else (crowd.kinds - 1) * (crowd.kinds - 2) // 2
                self.assertEqual(free_numbers(web, crowd), 3 * (crowd.kinds - 1) + more)
        self.assertEqual(free_numbers(Web.row(8), BIG_CROWD), 45)
        self.assertEqual(free_numbers(Web.full(8), BIG_CROWD), 35)
        self.assertEqual(free_numbers(Web.ring(8), Crowd((4, 4))), 7)

    def test_told_and_put_back(self):
        for size in (3, 4, 5):
            for web in some_webs(size):
                for crowd in small_crowds(size)[::2]:
                    table = kept_table(web, crowd, seed=size)
                    numbers = free_of(table, crowd)
                    self.assertEqual(numbers, free_ones(table))
                    self.assertTrue(isinstance(numbers, tuple) and all_ratios(numbers))
                    self.assertEqual(len(numbers), free_numbers(web, crowd))
                    self.assertEqual(free_table(web, crowd, list(numbers)), table)

    def test_any_numbers_make_one_kept_table(self):
        for size in (3, 4):
            for web in some_webs(size):
                for crowd in small_crowds(size):
                    numbers = tuple(Numbers(size).ratios(free_numbers(web, crowd)))
                    table = free_table(web, crowd, numbers)
                    self.assertEqual(free_ones(table), numbers)
                    self.assertIsNotNone(spread_chances(table, crowd))
                    self.assertEqual(free_of(table, crowd), numbers)
                    self.assertTrue(all_ratios(table.entries))

    def test_many_words(self):
        for web in (Web.row(8), Web.ring(8), Web.star(8), Web.full(8), renamed(Web.ring(8), (3, 6, 0, 7, 2, 1, 5, 4))):
            numbers = tuple(Numbers(3).ratios(free_numbers(web, BIG_CROWD)))
            table = free_table(web, BIG_CROWD, numbers)
            self.assertIs(is_kept(table, BIG_CROWD), True)
            self.assertEqual(free_of(table, BIG_CROWD), numbers)
            self.assertEqual(free_ones(table), numbers)

    def test_integers_stand_for_ratios(self):
        table = free_table(Web.row(3), crowd_of(1, 1, 1), [2, 2, 2, 2, 2])
        self.assertEqual(table, table_of(Web.row(3), 3, [[2, 2, 2], [2, 2, 2]]))
        self.assertEqual([number.told() for number in free_of(table, crowd_of(1, 1, 1))], ["2"] * 5)

    def test_wrong_ones(self):
        web, crowd = Web.row(3), Crowd((1, 1, 1))
        for more in (Crowd((2, 1, 1)), Crowd((3,))):
            self.assertEqual(told(free_numbers, web, more), ("Unfit",))
            self.assertEqual(told(free_table, web, more, None), ("Unfit",))
        for numbers in (None, "12345", [1] * 4, [0] * 6, (), 5):
            self.assertEqual(told(free_table, web, crowd, numbers), ("BadTable", -1), numbers)
        for numbers, place in [
            ([1, 1, 0, 1, None], 2), ((1, 1, 1, 1, -1), 4), ([1, "1", 1, 1, 0], 1), ([Ratio(-1, 2)] * 5, 0),
        ]:
            self.assertEqual(told(free_table, web, crowd, numbers), ("BadTable", place), numbers)
        table = table_of(web, 3, [[2, 2, 2], [1, 1, 1]])
        self.assertEqual(told(free_of, table, Crowd((2, 1))), ("Unfit",))
        self.assertEqual(told(free_of, table, Crowd((2, 1, 1))), ("Unfit",))
        wrong = told(free_of, table, crowd)
        self.assertEqual(wrong[0], "NotKept")
        self.assertNotEqual(product_of(table, wrong[1]), 1)


class TestOneTieMore(unittest.TestCase):

    def test_spread_to(self):
        seen = set()
        for size in (3, 4, 5):
            for web in some_webs(size):
                for crowd in small_crowds(size, (2, 3)):
                    for order in (True, False):
                        table = table_by(web, crowd, some_values(web, crowd, seed=5, order=order))
                        shares = local_shares(table, crowd)
                        for u, v in combinations(range(size), 2):
                            if (u, v) in web:
                                continue
                            expected = table_in(web + (u, v), shares)
                            self.assertEqual(spread_to(table, crowd, u, v), expected)
                            self.assertEqual(spread_to(table, crowd, v, u), expected)
                            seen.add((shape(web), shape(web + (u, v)), crowd.kinds, expected is None))
        self.assertIn(("row", "threefold", 3, True), seen)
        self.assertIn(("ring", "threefold", 3, True), seen)
        free = {none for before, after, _, none in seen if after == "ring" or before == "threefold"}
        self.assertEqual(free, {False})
        self.assertEqual({none for _, _, kinds, none in seen if kinds == 2}, {False})

    def test_many_words(self):
        numbers = Numbers(4).ratios(45)
        table = free_table(Web.row(8), BIG_CROWD, numbers)
        ring = spread_to(table, BIG_CROWD, 7, 0)
        self.assertEqual((ring.web, is_kept(ring, BIG_CROWD)), (Web.ring(8), True))
        self.assertEqual(free_of(ring, BIG_CROWD), tuple(numbers))
        self.assertIsNone(spread_to(table, BIG_CROWD, 0, 2))
        more = spread_to(free_table(Web.star(8), BIG_CROWD, numbers[:35]), BIG_CROWD, 5, 3)
        self.assertEqual((more.web, is_kept(more, BIG_CROWD)), (Web.star(8) + (3, 5), True))

    def test_wrong_ones(self):
        table = table_of(Web.row(4), 3, [[2, 2, 2], [1, 1, 1], [1, 1, 1]])
        crowd = Crowd((2, 1, 1))
        self.assertEqual(told(spread_to, table, Crowd((1, 1, 1)), 9, 9), ("Unfit",))
        self.assertEqual(told(spread_to, table, Crowd((2, 2)), 9, 9), ("Unfit",))
        self.assertEqual(told(spread_to, table, crowd, 4, 9), ("BadPlace", 4))
        self.assertEqual(told(spread_to, table, crowd, 0, -1), ("BadPlace", -1))
        self.assertEqual(told(spread_to, table, crowd, 3, 3), ("BadPlace", 3))
        self.assertEqual(told(spread_to, table, crowd, 2, 1), ("BadWeb", 1))
        self.assertEqual(told(spread_to, table, crowd, 2, 3), ("BadWeb", 2))
        for u, v in ((0, 3), (0, 2)):
            wrong = told(spread_to, table, crowd, u, v)
            self.assertEqual(wrong[0], "NotKept")
            self.assertNotEqual(product_of(table, wrong[1]), 1)
        self.assertEqual(told(spread_to, some_table(Web.star(4), 3), crowd, 1, 2)[0], "NotKept")

    def test_arguments_stay(self):
        table = RatioTable.even(Web.row(4), 3)
        entries = table.entries
        spread_to(table, Crowd((2, 1, 1)), 0, 3)
        self.assertEqual((table.web, table.entries), (Web.row(4), entries))


class TestAllLocal(unittest.TestCase):

    def test_against_shares(self):
        for size in (3, 4, 5):
            for crowd in small_crowds(size):
                # Weights in no proportion: they are local only where all are.
                shares = Shares(crowd, [2 ** (at % 40) * 3 ** (at * at % 7) for at in range(crowd.many)])
                found = {table_in(web, shares) is not None for web in some_webs(size)}
                self.assertEqual(found, {all_local(crowd)}, crowd.counts)

    def test_by_hand(self):
        for counts, answer in [
            ((1, 2), True), ((2, 1), True), ((1, 7), True), ((7, 1), True), ((2, 2), False), ((4, 4), False),
            ((1, 1, 1), True), ((2, 1, 1), False), ((1, 1, 1, 1), False), (BIG_CROWD.counts, False),
        ]:
            self.assertIs(all_local(Crowd(counts)), answer)

    def test_unfit(self):
        for counts in ((1, 1), (2,), (3,), (8,), (1,)):
            self.assertEqual(told(all_local, Crowd(counts)), ("Unfit",))
