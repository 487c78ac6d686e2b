"""[62] to [64]: runs seen backwards."""

import unittest
from itertools import permutations, product

from steprows.arrows import Arrows
from steprows.backs import back_fault, back_rate, backwards, backwards_by, mean_run
from steprows.crowds import Crowd, exchanged, words_of
from steprows.forms import ProductForm, form_of
from steprows.ratios import Ratio
from steprows.runs import Run
from steprows.shapes import is_tree
from steprows.shares import Shares, table_in
from steprows.solving import lasting_shares
from steprows.standing import is_standing, stands, table_of_run
from steprows.tables import RatioTable, product_of
from steprows.webs import Web
from tests.common import (
    BIG_CROWD, changed, even_run, kept_table, share_chances, fraction, ratio, small_crowds, some_run,
    some_standing_run, some_table, some_webs, told,
)


def back_rates_by_words(run, shares):
    """For each tie and two unlike kinds there the back rates of all words, by [62]."""
    chances = dict(zip(words_of(shares.crowd), share_chances(shares)))
    found = {}
    for (u, v), word in product(run.web.ties, chances):
        a, b = word[u], word[v]
        if a != b:
            rate = chances[exchanged(word, u, v)] * fraction(run.rate(u, v, b, a)) / chances[word]
            found.setdefault((u, v, a, b), {})[word] = rate
    return found


def some_runs(web, crowd):
    return [some_run(web, crowd.kinds), some_standing_run(web, crowd), even_run(web, crowd.kinds)]


class TestBackRates(unittest.TestCase):

    def test_formula(self):
        for web in some_webs(4):
            for crowd in (Crowd((2, 2)), Crowd((2, 1, 1))):
                # Neither the shares need last nor the run be full.
                for run in (some_run(web, crowd.kinds), some_run(web, crowd.kinds, zeros=True)):
                    shares = Shares(crowd, [1 + spot % 5 for spot in range(crowd.many)])
                    for (u, v, a, b), rates in back_rates_by_words(run, shares).items():
                        for word, rate in rates.items():
                            self.assertEqual(back_rate(run, shares, word, u, v), ratio(rate))
                            self.assertEqual(back_rate(run, shares, list(word), v, u), ratio(rate))
                            self.assertIsInstance(back_rate(run, shares, word, u, v), Ratio)

    def test_words_without_a_chance(self):
        run = Run(Web.row(3), 2, [[[0, 2], [3, 0]], [[0, 5], [7, 0]]])
        shares = Shares(Crowd((2, 1)), [1, 2, 0])
        self.assertEqual(back_rate(run, shares, (0, 0, 1), 1, 2).told(), "14")
        self.assertEqual(back_rate(run, shares, (0, 1, 0), 0, 1).told(), "0")
        self.assertEqual(told(back_rate, run, shares, (1, 0, 0), 0, 1), ("NotLocal",))
        self.assertEqual(told(back_rate, run, shares, (1, 0, 0), 1, 2), ("BadKind", 0))

    def test_wrong_ones_in_order(self):
        run = some_run(Web.row(4), 2)
        for crowd in (Crowd((2, 1)), Crowd((2, 1, 1)), Crowd((4,))):
            self.assertEqual(told(back_rate, run, Shares.even(crowd), None, 9, 9), ("Unfit",))
        shares = Shares(Crowd((2, 2)), [0, 1, 1, 1, 1, 1])
        word = (0, 0, 1, 1)
        for things, wrong in [
            ((None, 9, 9), ("BadWord", -1)), (((0, 1), 9, 9), ("BadWord", -1)), (((0, 2, 3, 1), 9, 9), ("BadWord", 1)),
            (((0, 1, 1, 1), 9, 9), ("BadWord", -2)), ((word, 4, 9), ("BadPlace", 4)), ((word, 0, 9), ("BadPlace", 9)),
            ((word, 2, 2), ("BadPlace", 2)), ((word, 3, 0), ("NoTie", 3, 0)), ((word, 0, 1), ("BadKind", 0)),
            ((word, 3, 2), ("BadKind", 1)), ((word, 2, 1), ("NotLocal",)),
        ]:
            self.assertEqual(told(back_rate, run, shares, *things), wrong, things)


class TestBackwards(unittest.TestCase):

    def test_against_all_words(self):
        seen = set()
        for size in (3, 4):
            for web in some_webs(size):
                for crowd in small_crowds(size, (2, 3)):
                    for run in some_runs(web, crowd):
                        rates = back_rates_by_words(run, lasting_shares(run, crowd))
                        one_each = all(len(set(by_word.values())) == 1 for by_word in rates.values())
                        back = backwards(run, crowd)
                        seen.add((one_each, stands(run, crowd)))
                        self.assertIs(back is not None, one_each)
                        if one_each:
                            self.check_back(run, crowd, back, rates)
                        self.check_fault(run, crowd, one_each, rates)
        self.assertEqual(seen, {(True, True), (True, False), (False, False)})

    def check_back(self, run, crowd, back, rates):
        self.assertIsInstance(back, Run)
        self.assertEqual((back.web, back.kinds, back.filled), (run.web, run.kinds, True))
        for (u, v, a, b), by_word in rates.items():
            self.assertEqual(fraction(back.rate(u, v, a, b)), list(by_word.values())[0])
        shares = lasting_shares(run, crowd)
        self.assertEqual(lasting_shares(back, crowd), shares)
        self.assertEqual(backwards(back, crowd), run)
        self.assertIs(back == run, stands(run, crowd))
        mean = mean_run(run, back)
        self.assertIs(is_standing(mean, shares), True)
        self.assertEqual(backwards_by(run, table_in(run.web, shares), crowd), back)

    def check_fault(self, run, crowd, one_each, rates):
        fault = back_fault(run, crowd)
        self.assertIs(fault is None, one_each)
        if fault is not None:
            (u, v), word, other = fault
            self.assertTrue(isinstance(fault, tuple) and isinstance(word, tuple) and isinstance(other, tuple))
            self.assertIn((u, v), run.web.ties)
            by_word = rates[u, v, word[u], word[v]]
            self.assertNotEqual(by_word[word], by_word[other])

    def test_kinds_that_no_two_words_share(self):
        # Kinds of which each is there once meet at a tie in few words, but in more than one.
        run = some_run(Web.row(4), 4)
        crowd = Crowd((1, 1, 1, 1))
        rates = back_rates_by_words(run, lasting_shares(run, crowd))
        self.assertIsNone(backwards(run, crowd))
        self.check_fault(run, crowd, False, rates)

    def test_where_it_is_always_a_run(self):
        for size in (3, 4, 5):
            for web in some_webs(size):
                for crowd in small_crowds(size, (2, 3)):
                    always = crowd.kinds == 2 and (is_tree(web) or 1 in crowd.counts) or size == 3
                    if always:
                        self.assertIsNotNone(backwards(some_run(web, crowd.kinds, seed=7), crowd))
        self.assertIsNone(backwards(some_run(Web.ring(4), 2), Crowd((2, 2))))
        self.assertIsNone(backwards(some_run(Web.row(4), 3), Crowd((2, 1, 1))))

    def test_product_forms(self):
        for web in some_webs(4):
            for crowd in (Crowd((2, 2)), Crowd((3, 1)), Crowd((2, 1, 1))):
                if web.along is not None and crowd.kinds > 2:
                    continue
                for run in some_runs(web, crowd):
                    shares = lasting_shares(run, crowd)
                    table = table_in(web, shares)
                    self.assertIs(backwards(run, crowd) is None, table is None)
                    if table is not None:
                        form = form_of(table, crowd)
                        self.assertIsInstance(form, ProductForm)
                        self.assertEqual(form.laid(), shares)

    def test_how_many_words(self):
        run = even_run(Web.ring(7), 2)
        turned = Run(run.web, 2, [[[table[b][a] for b in range(2)] for a in range(2)] for table in run.rates])
        self.assertEqual(backwards(run, Crowd((4, 3))), turned)
        self.assertIsNone(back_fault(run, Crowd((4, 3))))
        for call in (backwards, back_fault):
            self.assertEqual(told(call, some_run(Web.ring(7), 3), Crowd((5, 1, 1))), ("TooMany", 42))
            self.assertEqual(told(call, some_run(Web.ring(8), 6), BIG_CROWD), ("TooMany", 10080))
            self.assertEqual(told(call, some_run(Web.ring(8), 6, zeros=True), BIG_CROWD), ("NotFull",))
            self.assertEqual(told(call, some_run(Web.ring(8), 2, zeros=True), BIG_CROWD), ("Unfit",))
            self.assertEqual(told(call, some_run(Web.ring(3), 2), Crowd((2, 2))), ("Unfit",))

    def test_example(self):
        run = Run(Web.ring(3), 2, [[[0, 1], [2, 0]], [[0, 1], [1, 0]], [[0, 1], [1, 0]]])
        back = backwards(run, Crowd((2, 1)))
        found = (back.rate(0, 1, 1, 0).told(), back.rate(0, 1, 0, 1).told(), back.rate(0, 2, 1, 0).told())
        self.assertEqual(found, ("5/3", "6/5", "4/3"))


class TestBackwardsBy(unittest.TestCase):

    def test_many_words(self):
        for web in (Web.row(8), Web.ring(8), Web.full(8)):
            flat = RatioTable.even(web, 6)
            run = even_run(web, 6)
            back = backwards_by(run, flat, BIG_CROWD)
            for (u, v), (a, b) in product(web.ties, permutations(range(6), 2)):
                self.assertEqual(back.rate(u, v, a, b), run.rate(u, v, b, a))
            self.assertEqual(back.rates[0][2][2], 0)
            self.assertEqual(back == run, is_tree(web))
            self.assertEqual(told(backwards_by, some_run(web, 6), flat, BIG_CROWD), ("NotLocal",))
        rising = [[0 if a == b else 1 + (a < b) for b in range(6)] for a in range(6)]
        run = Arrows(Web.row(8), [(u, u + 1, u + 1) for u in range(7)], rising).as_run()
        self.assertEqual(backwards_by(run, table_of_run(run), BIG_CROWD), run)

    def test_tables_that_do_not_last(self):
        for web in some_webs(4):
            for crowd in (Crowd((2, 2)), Crowd((2, 1, 1))):
                run = some_run(web, crowd.kinds)
                if table_of_run(run) != kept_table(web, crowd):
                    self.assertEqual(told(backwards_by, run, kept_table(web, crowd), crowd), ("NotLocal",))

    def test_wrong_ones_in_order(self):
        web, crowd = Web.ring(4), Crowd((2, 1, 1))
        run, part = some_run(web, 3), some_run(web, 3, zeros=True)
        unkept = changed(kept_table(web, crowd), 0, 0, 1)
        name, walk = told(backwards_by, run, unkept, crowd)
        self.assertEqual((name, walk[0]), ("NotKept", walk[-1]))
        self.assertNotEqual(product_of(unkept, walk), 1)
        self.assertEqual(told(backwards_by, part, unkept, crowd), ("NotFull",))
        for table in (some_table(Web.row(4), 3), some_table(web, 2), some_table(Web.full(4), 3)):
            self.assertEqual(told(backwards_by, part, table, crowd), ("Unfit",))
        for other in (Crowd((2, 2)), Crowd((2, 2, 1)), Crowd((1, 1, 1)), Crowd((1, 1, 1, 1))):
            self.assertEqual(told(backwards_by, part, unkept, other), ("Unfit",))
        self.assertEqual(told(backwards_by, part, RatioTable.even(web, 3), crowd), ("NotFull",))


class TestMeanRun(unittest.TestCase):

    def test_rates(self):
        for web in some_webs(4):
            one, other = some_run(web, 3, seed=2), some_run(web, 3, seed=3, zeros=True)
            mean = mean_run(one, other)
            self.assertEqual((mean.web, mean.kinds), (web, 3))
            for (u, v), a, b in product(web.ties, range(3), range(3)):
                expected = (one.rate(u, v, a, b) + other.rate(u, v, a, b)).over(2)
                self.assertEqual(mean.rate(u, v, a, b), expected)

    def test_unfit(self):
        run = some_run(Web.row(3), 2)
        for other in (some_run(Web.star(3), 2), some_run(Web.row(3), 3), some_run(Web.row(4), 2)):
            self.assertEqual(told(mean_run, run, other), ("Unfit",))
