"""[18], [19], [20]: which tables are kept."""

import unittest
from itertools import combinations, permutations, product

from steprows.crowds import Crowd, crowd_of
from steprows.ratios import Ratio
from steprows.rounds import broken, is_kept, round_product, turns_agree, turns_product
from steprows.shapes import shape
from steprows.tables import RatioTable, product_of, table_of
from steprows.walks import is_walk, round_walk, six_walk
from steprows.webs import Web
from tests.common import (
    BIG_CROWD, Numbers, all_rings, all_three_walks, changed, fraction, kept_table, small_crowds, some_table, some_webs,
    spread_chances, told,
)


def turn_rule(table):
    """The turn rule as [19] tells it."""
    web = table.web
    return all(
        table.turn(u, v, a, b, c) == table.turn(v, s, a, b, c)
        for v in range(web.size) for u, s in permutations(web.near(v), 2)
        for a, b, c in permutations(range(table.kinds), 3)
    )


def round_rule(table, crowd):
    """The round rule as [19] tells it, for every ring of places."""
    for ring in all_rings(table.web):
        for a, b in permutations(range(table.kinds), 2):
            left = right = 1
            for u, v in zip(ring, ring[1:] + ring[:1]):
                left *= fraction(table.at(u, v, a, b))
            for c, count in enumerate(crowd.counts):
                right *= fraction(table.turn(ring[0], ring[1], a, b, c)) ** count
            if left != right:
                return False
    return True


def untwisted(web, kinds, numbers):
    """A table whose turns are all 1."""
    rows = []
    for _ in web.ties:
        spots = numbers.ratios(kinds)
        rows.append([spots[b].over(spots[a]) for a, b in combinations(range(kinds), 2)])
    return table_of(web, kinds, rows)


def alike_along(web, kinds, numbers):
    """A table of a row or a ring with the same entries at each tie along the line."""
    line = web.along + web.along[:1]
    row = numbers.ratios(kinds * (kinds - 1) // 2)
    back = [entry.inverse() for entry in row]
    return table_of(web, kinds, [row if tie in zip(line, line[1:]) else back for tie in web.ties])


def some_tables(web, crowd):
    """Kept tables, tables with one entry changed, and tables that keep one rule or none."""
    numbers = Numbers(len(web) * 100 + crowd.kinds)
    kinds = crowd.kinds
    kept = kept_table(web, crowd, seed=numbers.below(1000))
    pairs = list(combinations(range(kinds), 2))
    tables = [kept, RatioTable.even(web, kinds), some_table(web, kinds, seed=numbers.below(1000))]
    for _ in range(3):
        a, b = numbers.choice(pairs)
        tables.append(changed(kept, numbers.below(len(web)), a, b))
    tables.append(untwisted(web, kinds, numbers))
    if web.along is not None:
        tables.append(alike_along(web, kinds, numbers))
    return tables


class TestRules(unittest.TestCase):

    def test_kept_just_where_all_steps_agree(self):
        seen = set()
        for size in (3, 4):
            for web in some_webs(size):
                for crowd in small_crowds(size):
                    for table in some_tables(web, crowd):
                        kept = spread_chances(table, crowd) is not None
                        self.assertIs(is_kept(table, crowd), kept)
                        self.assertIs(turns_agree(table), turn_rule(table))
                        self.assertIs(turn_rule(table) and round_rule(table, crowd), kept)
                        seen.add((shape(web), crowd.kinds > 2, kept, turn_rule(table)))
        # The turn rule says nothing of two kinds, and the round rule nothing of rows.
        either = (True, False)
        self.assertEqual(seen, {
            (name, many, kept, turns)
            for name, many, kept, turns in product(("row", "ring", "threefold"), either, either, either)
            if (turns or not kept) and (turns or many) and not (name == "row" and turns and not kept)
        })

    def test_larger_webs(self):
        for web in some_webs(5):
            for crowd in (Crowd((2, 2, 1)), Crowd((3, 2)), Crowd((2, 1, 1, 1))):
                for table in some_tables(web, crowd):
                    self.assertIs(is_kept(table, crowd), spread_chances(table, crowd) is not None)

    def test_many_words(self):
        for web in (Web.row(8), Web.ring(8), Web.star(8), Web.full(8)):
            table = kept_big_table(web)
            self.assertIs(is_kept(table, BIG_CROWD), True)
            self.assertIsNone(broken(table, BIG_CROWD))
            wrong = changed(table, 3, 2, 4)
            self.assertIs(is_kept(wrong, BIG_CROWD), False)
            walk = broken(wrong, BIG_CROWD)
            self.assertNotEqual(product_of(wrong, walk), 1)
            self.assertEqual(sorted(walk[0]), [0, 0, 1, 1, 2, 3, 4, 5])

    def test_one_rule_without_the_other(self):
        ring = table_of(Web.ring(3), 2, [[2], [3], [5]])
        self.assertEqual((turns_agree(ring), is_kept(ring, Crowd((2, 1)))), (True, False))
        row = table_of(Web.row(3), 3, [[2, 2, 2], [1, 1, 1]])
        self.assertEqual((turns_agree(row), is_kept(row, Crowd((1, 1, 1)))), (False, False))
        # Round the ring all products are 1, and so are the products of the turns, yet two turns differ.
        both = table_of(Web.ring(4), 3, [[1, 1, 1], [1, 1, 1], [2, 1, 1], [Ratio(1, 2), 1, 1]])
        self.assertEqual((turns_agree(both), round_product(both, (0, 1, 2, 3), 0, 1)), (False, 1))
        self.assertIs(is_kept(both, Crowd((2, 1, 1))), False)

    def test_counts_matter_on_a_ring(self):
        crowds = small_crowds(4, (3,))
        for crowd in crowds:
            table = kept_table(Web.ring(4), crowd, seed=5)
            self.assertNotEqual(table.turn(0, 1, 0, 1, 2), 1)
            self.assertEqual([more.counts for more in crowds if is_kept(table, more)], [crowd.counts])


def kept_big_table(web):
    """A kept table for two crowds of 8 and 6 kinds; along a line all turns are 1."""
    numbers = Numbers(len(web))
    spots = [numbers.ratios(6) for _ in range(8)]
    return table_of(web, 6, [
        [(spots[u][b] * spots[v][a]).over(spots[u][a] * spots[v][b]) for a, b in combinations(range(6), 2)]
        for u, v in web.ties
    ])


class TestProductsAndInverses(unittest.TestCase):

    def test_of_kept_tables(self):
        for web in some_webs(4):
            for crowd in small_crowds(4):
                one = kept_table(web, crowd, seed=11)
                other = kept_table(web, crowd, seed=12)
                for table in (one * other, one.inverse(), RatioTable.even(web, crowd.kinds)):
                    self.assertIs(is_kept(table, crowd), True)
                first, second = spread_chances(one, crowd), spread_chances(other, crowd)
                both = spread_chances(one * other, crowd)
                self.assertEqual(both, [chance * more for chance, more in zip(first, second)])
                self.assertEqual(spread_chances(one.inverse(), crowd), [1 / chance for chance in first])


class TestRoundProduct(unittest.TestCase):

    def test_all_rings(self):
        for web in some_webs(4):
            table = some_table(web, 3)
            for ring in all_rings(web):
                for a, b in permutations(range(3), 2):
                    expected = Ratio(1)
                    for u, v in zip(ring, ring[1:] + ring[:1]):
                        expected = expected * table.at(u, v, a, b)
                    found = round_product(table, list(ring), a, b)
                    self.assertEqual(found, expected)
                    self.assertIsInstance(found, Ratio)
                    self.assertEqual(found * round_product(table, ring[::-1], b, a), found * found)

    def test_example(self):
        table = table_of(Web.ring(3), 2, [[2], [6], [3]])
        self.assertEqual(round_product(table, (0, 1, 2), 0, 1).told(), "1")
        self.assertEqual(round_product(table_of(Web.ring(3), 2, [[2], [5], [3]]), [0, 1, 2], 0, 1).told(), "6/5")

    def test_wrong_ones(self):
        table = RatioTable.even(Web.ring(4), 3)
        for ring in (None, (0, 1), [], "0123", 4):
            self.assertEqual(told(round_product, table, ring, 9, 9), ("BadPlace", -1))
        for ring, place in [((0, 4, 9), 4), ((0, 1, 0), 0), ((0, 1, 2, -1), -1), ((0, 2, "1"), "1")]:
            self.assertEqual(told(round_product, table, ring, 9, 9), ("BadPlace", place))
        self.assertEqual(told(round_product, table, (0, 2, 1), 9, 9), ("NoTie", 0, 2))
        self.assertEqual(told(round_product, table, (0, 1, 3), 9, 9), ("NoTie", 1, 3))
        self.assertEqual(told(round_product, table, (1, 2, 3), 9, 9), ("NoTie", 3, 1))
        self.assertEqual(told(round_product, table, (0, 1, 2, 3), 3, 9), ("BadKind", 3))
        self.assertEqual(told(round_product, table, (0, 1, 2, 3), 2, -1), ("BadKind", -1))
        self.assertEqual(told(round_product, table, (0, 1, 2, 3), 3, 3), ("BadKind", 3))
        self.assertEqual(told(round_product, table, (0, 1, 2, 3), 2, 2), ("BadKind", 2))


class TestTurnsProduct(unittest.TestCase):

    def test_product(self):
        for web in some_webs(4):
            table = some_table(web, 3)
            for counts in ((2, 1, 1), (1, 1, 2)):
                for (u, v), a, b in product(web.ties, range(3), range(3)):
                    expected = Ratio(1)
                    for c in range(3):
                        for _ in range(counts[c]):
                            expected = expected * table.turn(u, v, a, b, c)
                    found = turns_product(table, Crowd(counts), u, v, a, b)
                    self.assertEqual(found, expected)
                    self.assertIsInstance(found, Ratio)
                    self.assertEqual(turns_product(table, Crowd(counts), v, u, a, b), expected.inverse())
                    if a == b:
                        self.assertEqual(found, 1)

    def test_wrong_ones(self):
        table = RatioTable.even(Web.row(4), 3)
        crowd = Crowd((2, 1, 1))
        self.assertEqual(told(turns_product, table, Crowd((1, 1, 1)), 9, 9, 9, 9), ("Unfit",))
        self.assertEqual(told(turns_product, table, Crowd((2, 2)), 0, 1, 0, 1), ("Unfit",))
        self.assertEqual(told(turns_product, table, crowd, 4, 9, 9, 9), ("BadPlace", 4))
        self.assertEqual(told(turns_product, table, crowd, 2, 2, 9, 9), ("BadPlace", 2))
        self.assertEqual(told(turns_product, table, crowd, 2, 0, 9, 9), ("NoTie", 2, 0))
        self.assertEqual(told(turns_product, table, crowd, 2, 1, 3, 9), ("BadKind", 3))
        self.assertEqual(told(turns_product, table, crowd, 2, 1, 0, 9), ("BadKind", 9))


class TestBroken(unittest.TestCase):

    def test_the_walk_shows_it(self):
        for size in (3, 4):
            for web in some_webs(size):
                for crowd in small_crowds(size, (2, 3)):
                    walks = all_three_walks(web, crowd)
                    for table in some_tables(web, crowd):
                        walk = broken(table, crowd)
                        self.assertIs(walk is None, is_kept(table, crowd))
                        products = [product_of(table, one) for one in walks] if walk is None else []
                        self.assertTrue(all(one == 1 for one in products))
                        if walk is not None:
                            self.assertIn(walk, walks)
                            self.assertEqual(walk[0], walk[-1])
                            self.assertIs(is_walk(web, walk), True)
                            self.assertNotEqual(product_of(table, walk), 1)

    def test_six_walks(self):
        web = Web.star(4)
        table = some_table(web, 4)
        for word in permutations(range(4)):
            for u, v, s in [(1, 0, 2), (3, 0, 1), (2, 0, 3)]:
                a, b, c = word[u], word[v], word[s]
                found = product_of(table, six_walk(web, word, (u, v, s)))
                self.assertEqual(found, table.turn(u, v, a, b, c).over(table.turn(v, s, a, b, c)))

    def test_closed_walks_of_a_kept_table(self):
        crowd = crowd_of(2, 1, 1)
        table = kept_table(Web.ring(4), crowd)
        for ring in all_rings(Web.ring(4)):
            for word in [(0, 1, 2, 0), (1, 2, 0, 0), (0, 1, 0, 2)]:
                if word[ring[0]] != word[ring[1]]:
                    self.assertEqual(product_of(table, round_walk(Web.ring(4), word, ring)), 1)

    def test_unfit(self):
        table = RatioTable.even(Web.row(3), 2)
        for call in (is_kept, broken):
            self.assertEqual(told(call, table, Crowd((2, 2))), ("Unfit",))
            self.assertEqual(told(call, table, Crowd((1, 1, 1))), ("Unfit",))
            self.assertEqual(told(call, table, Crowd((3,))), ("Unfit",))
