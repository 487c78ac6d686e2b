"""[17], [18]: shares, and those that are local."""

import unittest
from fractions import Fraction

from steprows.crowds import Crowd, crowd_of, exchanged, words_of
from steprows.free import free_of
from steprows.ratios import Ratio
from steprows.rounds import is_kept
from steprows.shares import Shares, local_shares, table_in
from steprows.tables import RatioTable, product_of, table_of
from steprows.walks import is_walk
from steprows.webs import Web
from tests.common import (
    BIG_CROWD, Numbers, all_ratios, chances_of, changed, fraction, kept_table, share_chances, small_crowds,
    some_table, some_values, some_webs, spread_chances, told,
)


def some_shares(crowd, seed=1, least=0):
    numbers = Numbers(seed)
    return Shares(crowd, [numbers.below(7) + least for _ in range(crowd.many - 1)] + [1])


def is_local_with(web, shares, table):
    """What [18] asks, word by word."""
    if min(shares.weights) == 0:
        return False
    return all(
        shares[exchanged(word, u, v)] == shares[word] * table.at(u, v, word[u], word[v])
        for word in words_of(shares.crowd) for u, v in web.ties
    )


class TestShares(unittest.TestCase):

    def test_lowest_terms(self):
        shares = Shares(Crowd((2, 1)), [4, 0, 6])
        self.assertEqual((shares.crowd, shares.weights, shares.bottom), (Crowd((2, 1)), (2, 0, 3), 5))
        self.assertIsInstance(shares.weights, tuple)
        self.assertEqual(Shares(Crowd((2, 1)), (0, 9, 0)).weights, (0, 1, 0))
        self.assertEqual(Shares(Crowd((4,)), [3]).weights, (1,))

    def test_wrong_weights(self):
        crowd = Crowd((2, 1))
        for weights, place in [
            (None, -1), ("123", -1), ([1, 2], -1), ([1, 2, 3, 4], -1), ([-1, "2"], -1), ([1, -1, "2"], 1),
            ([1, 2, None], 2), ([1, Ratio(2), -1], 1), ([0, 0, 0], -1), ([0, 0, -1], 2), ([0.5, 0, 0], 0),
        ]:
            self.assertEqual(told(Shares, crowd, weights), ("BadTable", place), weights)

    def test_too_many(self):
        for counts, many in [((4, 2, 2), 420), ((3, 2, 1, 1), 420), (BIG_CROWD.counts, 10080)]:
            for weights in (None, [1] * many, [0] * many):
                self.assertEqual(told(Shares, Crowd(counts), weights), ("TooMany", many))
            self.assertEqual(told(Shares.even, Crowd(counts)), ("TooMany", many))
        self.assertEqual(Shares.even(Crowd((2, 1, 1, 1, 1))).bottom, 360)
        self.assertEqual(Shares(Crowd((2, 1, 1, 1, 1)), [2] * 360), Shares.even(Crowd((2, 1, 1, 1, 1))))

    def test_even(self):
        self.assertEqual(Shares.even(Crowd((2, 2))).weights, (1,) * 6)

    def test_the_weights_passed_are_not_kept(self):
        weights = [4, 0, 6]
        shares = Shares(Crowd((2, 1)), weights)
        weights[1] = 5
        self.assertEqual((shares.weights, weights), ((2, 0, 3), [4, 5, 6]))

    def test_chances_of_words(self):
        crowd = Crowd((2, 1, 1))
        shares = some_shares(crowd)
        for word, weight in zip(words_of(crowd), shares.weights):
            self.assertEqual(shares[word], Ratio(weight, sum(shares.weights)))
            self.assertIsInstance(shares[list(word)], Ratio)
        for word, place in [(None, -1), ((0, 1), -1), ((0, 3, "x", 0), 1), ((0, 1, 1, 2), -2)]:
            self.assertEqual(told(lambda: shares[word]), ("BadWord", place))

    def test_length_and_order(self):
        shares = some_shares(Crowd((2, 1, 1)))
        self.assertEqual((len(shares), list(shares), tuple(shares)), (12, list(shares.weights), shares.weights))

    def test_equality(self):
        shares = Shares(Crowd((2, 1)), [1, 2, 3])
        self.assertTrue(shares == Shares(crowd_of(2, 1), (2, 4, 6)))
        self.assertFalse(shares == Shares(Crowd((2, 1)), [1, 2, 4]))
        self.assertFalse(shares == Shares(Crowd((1, 2)), [1, 2, 3]))
        for other in ((1, 2, 3), None, 3, Crowd((2, 1))):
            self.assertIs(shares == other, False)

    def test_one_place_and_two(self):
        for crowd in (Crowd((2, 1, 1)), Crowd((3, 1)), Crowd((2, 2, 1))):
            shares = some_shares(crowd)
            size, kinds = crowd.size, crowd.kinds
            chances = dict(zip(words_of(crowd), share_chances(shares)))
            for u in range(size):
                self.assertEqual(sum(fraction(shares.at_place(u, a)) for a in range(kinds)), 1)
                for a in range(kinds):
                    one = sum(chance for word, chance in chances.items() if word[u] == a)
                    self.assertEqual(fraction(shares.at_place(u, a)), one)
                    self.assertIsInstance(shares.at_place(u, a), Ratio)
                    for v in range(size):
                        if v == u:
                            continue
                        two = [shares.at_two(u, a, v, b) for b in range(kinds)]
                        self.assertTrue(all_ratios(tuple(two)))
                        self.assertEqual(sum(fraction(chance) for chance in two), one)
                        for b in range(kinds):
                            both = sum(chance for word, chance in chances.items() if (word[u], word[v]) == (a, b))
                            self.assertEqual(fraction(two[b]), both)

    def test_wrong_places_and_kinds(self):
        shares = Shares.even(Crowd((2, 1)))
        self.assertEqual(told(shares.at_place, 3, 9), ("BadPlace", 3))
        self.assertEqual(told(shares.at_place, 2, 2), ("BadKind", 2))
        self.assertEqual(told(shares.at_place, 2, "0"), ("BadKind", "0"))
        for things, wrong in [
            ((3, 9, 8, 9), ("BadPlace", 3)), ((0, 9, 8, 9), ("BadPlace", 8)), ((1, 9, 1, 9), ("BadPlace", 1)),
            ((0, 9, 1, 8), ("BadKind", 9)), ((0, 1, 1, 2), ("BadKind", 2)), ((0, -1, 1, 2), ("BadKind", -1)),
        ]:
            self.assertEqual(told(shares.at_two, *things), wrong, things)

    def test_exchanges(self):
        shares = Shares(Crowd((2, 1)), [4, 0, 6])
        self.assertEqual(shares.ratio_at((0, 0, 1), 2, 0).told(), "3/2")
        self.assertEqual(shares.ratio_at([0, 0, 1], 1, 2).told(), "0")
        self.assertEqual(shares.ratio_at((0, 0, 1), 1, 0).told(), "1")
        self.assertIsNone(shares.ratio_at((0, 1, 0), 0, 1))
        self.assertEqual(told(shares.ratio_at, (0, 1, 1), 9, 9), ("BadWord", -2))
        self.assertEqual(told(shares.ratio_at, (0, 2, 1), 9, 9), ("BadWord", 1))
        for u, v, place in [(3, 9, 3), (0, 9, 9), (1, 1, 1)]:
            self.assertEqual(told(shares.ratio_at, (0, 1, 0), u, v), ("BadPlace", place))
            self.assertEqual(told(shares.ratio_at, (0, 0, 1), u, v), ("BadPlace", place))


class TestLocalShares(unittest.TestCase):

    def test_examples(self):
        table = table_of(Web.row(3), 3, [[2, 2, 2], [2, 2, 2]])
        shares = local_shares(table, crowd_of(1, 1, 1))
        found = [shares.weights, shares.bottom, len(free_of(table, crowd_of(1, 1, 1)))]
        self.assertEqual(found, [(1, 2, 2, 4, 4, 8), 21, 5])
        table = table_of(Web.ring(3), 2, [[2], [6], [3]])
        self.assertEqual(local_shares(table, crowd_of(2, 1)).weights, (1, 3, 6))

    def test_by_their_values(self):
        for size in (3, 4, 5):
            for web in some_webs(size):
                for crowd in small_crowds(size)[::2]:
                    table = kept_table(web, crowd, seed=7)
                    shares = local_shares(table, crowd)
                    self.assertEqual(share_chances(shares), chances_of(some_values(web, crowd, seed=7)))
                    self.assertEqual(shares.crowd, crowd)
                    self.assertTrue(is_local_with(web, shares, table))
                    self.assertEqual(table_in(web, shares), table)

    def test_products_and_inverses(self):
        web, crowd = Web.ring(4), Crowd((2, 1, 1))
        one, other = kept_table(web, crowd, seed=1), kept_table(web, crowd, seed=2)
        first, second = local_shares(one, crowd), local_shares(other, crowd)
        both = [x * y for x, y in zip(first, second)]
        self.assertEqual(local_shares(one * other, crowd), Shares(crowd, both))
        back = share_chances(local_shares(one.inverse(), crowd))
        self.assertEqual(back, chances_of({at: Fraction(1, weight) for at, weight in enumerate(first)}))
        self.assertEqual(local_shares(RatioTable.even(web, 3), crowd), Shares.even(crowd))

    def test_not_kept(self):
        for web in some_webs(4):
            for crowd in small_crowds(4):
                table = some_table(web, crowd.kinds, seed=4)
                if is_kept(table, crowd):
                    self.assertIsNotNone(spread_chances(table, crowd))
                    continue
                wrong = told(local_shares, table, crowd)
                self.assertEqual(wrong[0], "NotKept")
                walk = wrong[1]
                self.assertIs(is_walk(web, walk), True)
                self.assertTrue(isinstance(walk, tuple) and all(one in words_of(crowd) for one in walk))
                self.assertEqual(walk[0], walk[-1])
                self.assertNotEqual(product_of(table, walk), 1)

    def test_wrong_ones(self):
        table = table_of(Web.ring(8), 3, [[2, 3, 5]] * 8)
        self.assertEqual(told(local_shares, table, Crowd((2, 2, 2))), ("Unfit",))
        self.assertEqual(told(local_shares, table, Crowd((4, 4))), ("Unfit",))
        self.assertEqual(told(local_shares, table, BIG_CROWD), ("Unfit",))
        self.assertEqual(told(local_shares, table, Crowd((4, 2, 2))), ("TooMany", 420))
        self.assertEqual(told(local_shares, RatioTable.even(Web.row(8), 6), BIG_CROWD), ("TooMany", 10080))
        self.assertEqual(told(local_shares, table, Crowd((6, 1, 1)))[0], "NotKept")


class TestTableIn(unittest.TestCase):

    def test_shares_that_are_not_local(self):
        for web in some_webs(4):
            for crowd in (Crowd((2, 2)), Crowd((2, 1, 1)), Crowd((1, 1, 1, 1))):
                self.assertIsNone(table_in(web, some_shares(crowd, least=1)))
                weights = list(local_shares(kept_table(web, crowd), crowd).weights)
                for at in (0, len(weights) // 2, len(weights) - 1):
                    # One word out of proportion is seen over each of its ties.
                    more = [weight * 3 if at == number else weight for number, weight in enumerate(weights)]
                    self.assertIsNone(table_in(web, Shares(crowd, more)))

    def test_weights_of_zero(self):
        crowd = Crowd((2, 1))
        for weights in ([0, 1, 1], [1, 0, 1], [1, 1, 0], [0, 0, 1]):
            self.assertIsNone(table_in(Web.row(3), Shares(crowd, weights)))
        self.assertEqual(table_in(Web.row(3), Shares(crowd, [1, 2, 6])), table_of(Web.row(3), 2, [[3], [2]]))

    def test_tables_of_ratios(self):
        table = table_in(Web.ring(3), Shares(Crowd((2, 1)), [1, 3, 6]))
        self.assertEqual(table, table_of(Web.ring(3), 2, [[2], [6], [3]]))
        self.assertTrue(all_ratios(table.entries))

    def test_local_on_one_web_only(self):
        crowd = Crowd((1, 1, 1, 1))
        table = table_of(Web.row(4), 4, [[2] * 6] * 3)
        shares = local_shares(table, crowd)
        self.assertEqual(table_in(Web.row(4), shares), table)
        self.assertIsNone(table_in(Web.star(4), shares))
        self.assertIsNotNone(table_in(Web.ring(4), shares))

    def test_unfit(self):
        self.assertEqual(told(table_in, Web.row(3), Shares.even(Crowd((2, 2)))), ("Unfit",))
        self.assertEqual(told(table_in, Web.row(3), Shares.even(Crowd((3,)))), ("Unfit",))

    def test_changed_tables_are_other_tables(self):
        web, crowd = Web.star(4), Crowd((2, 2))
        table = kept_table(web, crowd)
        # On a tree of two kinds every table is kept, each for shares of its own.
        other = changed(table, 1, 0, 1)
        self.assertEqual(table_in(web, local_shares(other, crowd)), other)
        self.assertNotEqual(local_shares(other, crowd), local_shares(table, crowd))
