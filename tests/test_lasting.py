"""[50], [51]: whether local shares last for a run, without listing words."""

import unittest
from itertools import permutations, product

from steprows.arrows import Arrows
from steprows.crowds import Crowd, words_of
from steprows.forms import ProductForm
from steprows.free import spread_to
from steprows.lasting import flow_fault, flow_function, lasts
from steprows.pairs import PairSum
from steprows.ratios import Ratio
from steprows.runs import Run
from steprows.shapes import is_tree, non_ties
from steprows.shares import Shares, local_shares, table_in
from steprows.standing import excess, is_lasting, quickened, standing_run, table_of_run
from steprows.tables import RatioTable, product_of
from steprows.walks import is_walk
from steprows.webs import Web
from tests.common import (
    BIG_CROWD, Numbers, all_ratios, changed, even_run, fraction, kept_table, pair_value, small_crowds, solved_shares,
    some_rows, some_run, some_standing_run, some_table, some_webs, told,
)


def runs_and_tables(web, crowd):
    """Runs, full or not, with kept tables whose shares last for some of them."""
    kinds = crowd.kinds
    kept = kept_table(web, crowd)
    flat = RatioTable.even(web, kinds)
    standing = some_standing_run(web, crowd)
    return [
        (standing, kept), (standing, flat), (even_run(web, kinds), flat), (even_run(web, kinds), kept),
        (some_run(web, kinds), kept), (some_run(web, kinds, zeros=True), flat),
        (Run(web, kinds, [[[0] * kinds] * kinds] * len(web)), kept),
    ]


class TestFlowFunction(unittest.TestCase):

    def test_entries(self):
        for web in some_webs(4):
            for run in (some_run(web, 3), some_run(web, 2, zeros=True)):
                table = some_table(web, run.kinds)
                flow = flow_function(run, table)
                self.assertIsInstance(flow, PairSum)
                self.assertEqual((flow.size, flow.kinds), (4, run.kinds))
                self.assertTrue(all_ratios(flow.tables))
                for (u, v), a, b in product(permutations(range(4), 2), range(run.kinds), range(run.kinds)):
                    expected = Ratio(0)
                    if (u, v) in web and a != b:
                        expected = table.at(u, v, a, b) * run.rate(u, v, b, a) - run.rate(u, v, a, b)
                    self.assertEqual(flow.at(u, v, a, b), expected)

    def test_excess_is_chance_times_its_sum(self):
        for web in some_webs(4):
            for crowd in (Crowd((2, 2)), Crowd((2, 1, 1)), Crowd((1, 3))):
                for run, table in runs_and_tables(web, crowd):
                    shares = local_shares(table, crowd)
                    flow = flow_function(run, table)
                    for word in words_of(crowd):
                        self.assertEqual(excess(run, shares, word), shares[word] * flow(word))

    def test_unfit(self):
        run = some_run(Web.row(3), 2)
        for table in (RatioTable.even(Web.star(3), 2), RatioTable.even(Web.ring(3), 2), RatioTable.even(Web.row(3), 3)):
            self.assertEqual(told(flow_function, run, table), ("Unfit",))


class TestLasts(unittest.TestCase):

    def test_against_all_words(self):
        seen = set()
        for size, crowds in ((3, small_crowds(3)), (4, small_crowds(4)[:7]), (5, [Crowd((3, 2)), Crowd((2, 2, 1))])):
            for web in some_webs(size):
                for crowd in crowds:
                    for run, table in runs_and_tables(web, crowd):
                        shares = local_shares(table, crowd)
                        expected = is_lasting(run, shares)
                        seen.add((expected, is_tree(web), run.filled))
                        self.assertIs(lasts(run, table, crowd), expected)
                        self.check_fault(run, table, crowd, expected)
        self.assertEqual(seen, set(product((True, False), repeat=3)))

    def check_fault(self, run, table, crowd, expected):
        word = flow_fault(run, table, crowd)
        self.assertIs(word is None, expected)
        if word is not None:
            self.assertIsInstance(word, tuple)
            self.assertIn(word, words_of(crowd))
            self.assertNotEqual(pair_value(flow_function(run, table), word), 0)
            self.assertNotEqual(excess(run, local_shares(table, crowd), word), 0)

    def test_shares_that_are_neither_flat_nor_standing(self):
        for web in some_webs(4):
            for crowd in (Crowd((3, 1)), Crowd((1, 3))):
                run = some_run(web, 2)
                shares = solved_shares(run, crowd)
                table = table_in(web, shares)
                self.assertIs(lasts(run, table, crowd), True)
                self.assertIsNone(flow_fault(run, table, crowd))
                self.assertIs(lasts(run, kept_table(web, crowd), crowd), False)
                self.assertIs(table == table_of_run(run), is_tree(web))

    def test_rates_between_any_two_places(self):
        # On a threefold web the table can be told at every pair of places, and then decides there, too.
        web, crowd = Web.star(4), Crowd((2, 1, 1))
        table = kept_table(web, crowd)
        while non_ties(table.web):
            table = spread_to(table, crowd, *non_ties(table.web)[0])
        self.assertEqual(table.web, Web.full(4))
        run = standing_run(table, some_rows(table.web, 3))
        self.assertIs(lasts(run, table, crowd), True)
        self.assertIs(lasts(quickened(run, 1, 2), table, crowd), True)
        self.assertIs(lasts(some_run(table.web, 3), table, crowd), False)
        self.assertEqual(local_shares(table, crowd), local_shares(kept_table(web, crowd), crowd))

    def test_many_words(self):
        for web in (Web.row(8), Web.ring(8), Web.full(8)):
            run, flat = even_run(web, 6), RatioTable.even(web, 6)
            self.assertIs(lasts(run, flat, BIG_CROWD), True)
            self.assertIs(lasts(some_run(web, 6), flat, BIG_CROWD), False)
            self.assertEqual(told(flow_fault, run, flat, BIG_CROWD), ("TooMany", 10080))

    def test_not_kept(self):
        for web in some_webs(4):
            for crowd in (Crowd((2, 1, 1)), Crowd((1, 2, 1))):
                table = changed(kept_table(web, crowd), 0, 0, 1)
                for call in (lasts, flow_fault):
                    name, walk = told(call, some_run(web, 3), table, crowd)
                    self.assertEqual(name, "NotKept")
                    self.assertTrue(is_walk(web, walk) and walk[0] == walk[-1] and walk[0] in words_of(crowd))
                    self.assertNotEqual(product_of(table, walk), 1)

    def test_wrong_ones_in_order(self):
        run = some_run(Web.ring(3), 2)
        unkept = changed(RatioTable.even(Web.ring(3), 2), 0, 0, 1)
        for call in (lasts, flow_fault):
            self.assertEqual(told(call, run, unkept, Crowd((2, 1)))[0], "NotKept")
            self.assertEqual(told(call, run, unkept, Crowd((2, 2))), ("Unfit",))
            self.assertEqual(told(call, run, unkept, Crowd((1, 1, 1))), ("Unfit",))
            self.assertEqual(told(call, some_run(Web.row(3), 2), unkept, Crowd((2, 1))), ("Unfit",))
            self.assertEqual(told(call, some_run(Web.ring(3), 3), unkept, Crowd((2, 1))), ("Unfit",))
            self.assertEqual(told(call, some_run(Web.ring(3), 3), unkept, Crowd((1, 1, 1))), ("Unfit",))
        run, unkept = some_run(Web.ring(8), 6), some_table(Web.ring(8), 6)
        self.assertEqual(told(flow_fault, run, unkept, BIG_CROWD), ("TooMany", 10080))
        self.assertEqual(told(flow_fault, some_run(Web.ring(8), 2), unkept, BIG_CROWD), ("Unfit",))
        self.assertEqual(told(lasts, run, unkept, BIG_CROWD)[0], "NotKept")
        run, unkept = some_run(Web.ring(4), 2), changed(RatioTable.even(Web.ring(4), 2), 0, 0, 1)
        for call in (lasts, flow_fault):
            self.assertEqual(told(call, run, unkept, BIG_CROWD), ("Unfit",))

    def test_example(self):
        web = Web.ring(4)
        run = Arrows(web, ((0, 1, 1), (3, 0, 1), (1, 2, 1), (2, 3, 1)), ((0, 2), (1, 0))).as_run()
        flat, crowd = RatioTable.even(web, 2), Crowd((2, 2))
        self.assertEqual([lasts(run, flat, crowd), lasts(quickened(run, 0, 1), flat, crowd)], [True, False])


class TestOnePlaceChances(unittest.TestCase):

    def test_they_tell_the_shares_of_product_forms(self):
        crowd = Crowd((2, 1, 1))
        numbers = Numbers(5)
        found = {}
        for _ in range(40):
            form = ProductForm(Web.full(4), crowd, [[Ratio(1 + numbers.below(2)) for _ in range(3)] for _ in range(4)])
            shares = form.laid()
            chances = tuple(fraction(shares.at_place(u, a)) for u in range(4) for a in range(3))
            self.assertEqual(found.setdefault(chances, shares.weights), shares.weights)
        self.assertGreater(len(found), 30)
        # Other shares may have the chances of even ones.
        swinging = Shares(Crowd((1, 1, 1)), [2, 1, 1, 2, 2, 1])
        self.assertEqual({swinging.at_place(u, a).told() for u in range(3) for a in range(3)}, {"1/3"})
