"""[97], [98], [100] to [102]: classes of kinds on a ring, their runs and their tables."""

import unittest
from itertools import combinations, permutations, product

from steprows.classes import Classes, balanced_ratios, class_table, classes_run
from steprows.crowds import Crowd, words_of
from steprows.flows import share_flow
from steprows.forms import OrderForm
from steprows.ratios import Ratio
from steprows.rounds import is_kept
from steprows.runs import Run
from steprows.shapes import shape
from steprows.shares import Shares, local_shares
from steprows.solving import lasting_shares
from steprows.standing import is_lasting
from steprows.tables import RatioTable
from steprows.webs import Web
from tests.common import (
    Numbers, all_ratios, fraction, kept_table, renamed, ring_steps_of, share_chances, some_classes, some_ratios,
    some_rows, some_webs, told,
)

FLAT2 = [[1, 1], [1, 1]]


def rings(size):
    """Rings of that size, their lines going through the places in several orders."""
    numbers = Numbers(size)
    return [Web.ring(size)] + [renamed(Web.ring(size), numbers.shuffled(range(size))) for _ in range(2)]


def class_cases():
    """Rings with classes of several crowds, with and without ratios."""
    for crowd, parting in (
        (Crowd((2, 1)), None), (Crowd((1, 1, 1)), None), (Crowd((2, 2)), None), (Crowd((1, 1, 1, 1)), ((3, 1, 0), (2,))),
        (Crowd((2, 1, 1)), ((0,), (1,), (2,))), (Crowd((2, 1, 1)), None), (Crowd((1, 2, 1, 1)), ((2, 1, 3), (0,))),
        (Crowd((1, 1, 2, 1)), ((0, 1, 2), (3,))), (Crowd((3, 2)), None), (Crowd((2, 2, 1)), None),
        (Crowd((1, 1, 1, 1, 1)), ((0, 4, 2, 1), (3,))),
    ):
        classes = some_classes(crowd, parting)
        for web in rings(crowd.size):
            yield web, classes


def value_by_hand(classes, word, line):
    value = 1
    for i, j in combinations(range(len(line)), 2):
        early, late = word[line[i]], word[line[j]]
        if late < early:
            value = value * fraction(classes.ratios[late][early])
    return value


class TestClasses(unittest.TestCase):

    def test_attributes(self):
        crowd = Crowd((1, 2, 1, 2))
        ratios = some_ratios(crowd, ((3, 1, 0),))
        classes = Classes(crowd, [[2], (3, 1, 0)], [5, Ratio(1, 2)], ratios)
        self.assertEqual(classes.crowd, crowd)
        self.assertEqual(classes.parting, ((0, 1, 3), (2,)))
        self.assertEqual(classes.leans, (0, Ratio(-9, 2)))
        self.assertEqual(classes.ratios, tuple(tuple(row) for row in ratios))
        self.assertNotEqual(classes.ratios[0][1], 1)
        self.assertTrue(all_ratios(classes.leans) and all_ratios(classes.ratios))
        self.assertEqual([classes.class_of(a) for a in range(4)], [0, 0, 1, 0])

    def test_leans_follow_the_parting_in_order(self):
        for lots in permutations([[0, 4], [1, 3], [2]]):
            classes = Classes(Crowd((1,) * 5), lots, [3, 4, 9], [[1] * 5] * 5)
            self.assertEqual(classes.parting, ((0, 4), (1, 3), (2,)))
            self.assertEqual(classes.leans, (0, 1, 6))
            self.assertEqual([classes.class_of(a) for a in range(5)], [0, 1, 2, 1, 0])

    def test_equal(self):
        crowd = Crowd((1, 1, 1, 1))
        lots = [[0, 1, 2], [3]]
        flat = [[1] * 4] * 4
        one = Classes(crowd, lots, [0, 1], flat)
        self.assertEqual(one, Classes(crowd, [(3,), (2, 1, 0)], (4, Ratio(5)), flat))
        for other in (
            Classes(crowd, lots, [1, 0], flat), Classes(crowd, lots, [0, 1], some_ratios(crowd, lots)),
            Classes(crowd, [[0, 1], [2, 3]], [0, 1], flat), Classes(Crowd((2, 1, 1, 1)), lots, [0, 1], flat),
        ):
            self.assertFalse(one == other)
        self.assertFalse(one == lots)
        self.assertFalse(one is None or one == ((0, 1),))

    def test_wrong_ones_in_order(self):
        crowd = Crowd((2, 1, 1))
        lots, flat = [[0], [1, 2]], [[1] * 3] * 3
        for parting, place in [
            (None, -1), ([], -1), ([[0, 1]], -1), ([[0, 1, 2]], -1), ([[2, 1, 0]], -1), ([[0], [1, 0]], 1), ([[0, 3]], 0),
            ([[0], [1], [2], []], 3),
        ]:
            self.assertEqual(told(Classes, crowd, parting, None, None), ("BadLot", place), parting)
        self.assertEqual(told(Classes, Crowd((3,)), [[0]], None, None), ("BadLot", -1))
        for leans in (
            None, "01", [], [0], [0, 1, 2], [0, 0], [1, Ratio(1)], [0, None], [Ratio(1, 2), Ratio(2, 4)], {0: 0, 1: 1},
            [True, 0],
        ):
            self.assertEqual(told(Classes, crowd, lots, leans, None), ("BadNumber", "leans"), leans)
        three = [[0], [1], [2]]
        for leans in ([0, 1, 1], [1, 0, 1], [1, 1, 0]):
            self.assertEqual(told(Classes, crowd, three, leans, flat), ("BadNumber", "leans"))

    def test_wrong_ratios(self):
        crowd, lots = Crowd((2, 1, 1)), [[0], [1, 2]]
        half, third = Ratio(1, 2), Ratio(1, 3)
        for ratios in (
            None, [], [[1] * 3] * 2, [[1] * 3] * 4, [[1, 1], [1, 1], [1, 1]], [[1] * 3, [1] * 3, "111"],
            [[1, 1, 1], [1, 1, 1], [1, 1, None]], [[2, 1, 1], [1, 1, 1], [1, 1, 1]], [[1, 1, 1], [1, 1, 1], [1, 1, -1]],
            [[1, 1, 1], [1, 1, 0], [1, 0, 1]], [[1, 1, 1], [1, 1, -1], [1, -1, 1]], [[1, 1, 1], [1, 1, 2], [1, 2, 1]],
            [[1, 1, 1], [1, 1, 2], [1, third, 1]], [[1, 2, 1], [half, 1, 1], [1, 1, 1]],
            [[1, 1, 2], [1, 1, 2], [half, half, 1]],
        ):
            self.assertEqual(told(Classes, crowd, lots, [0, 1], ratios), ("BadTable", -1), ratios)
        for ratios, parting, kind in [
            ([[1, 1, 1], [1, 1, 2], [1, half, 1]], lots, 1), ([[1, 1, 2], [1, 1, 1], [half, 1, 1]], [[0, 2], [1]], 0),
            ([[1, 3, 1], [third, 1, 1], [1, 1, 1]], [[2], [1, 0]], 0),
        ]:
            self.assertEqual(told(Classes, crowd, parting, [0, 1], ratios), ("BadTable", kind), ratios)

    def test_products_by_the_counts(self):
        # 2 * 4 * (1/8) is 1 for kind 0 only with counts (.., 1, 1, 1).
        lots, eighth, half, quarter = [[0, 1, 2], [3]], Ratio(1, 8), Ratio(1, 2), Ratio(1, 4)
        two = [[1, 2, half, 1], [half, 1, 2, 1], [2, half, 1, 1], [1, 1, 1, 1]]
        self.assertIsNone(told(Classes, Crowd((1, 1, 1, 3)), lots, [0, 1], two))
        self.assertIsNone(told(Classes, Crowd((2, 2, 2, 1)), lots, [0, 1], two))
        self.assertEqual(told(Classes, Crowd((2, 1, 1, 1)), lots, [0, 1], two), ("BadTable", 1))
        self.assertEqual(told(Classes, Crowd((1, 2, 1, 1)), lots, [0, 1], two), ("BadTable", 0))
        self.assertEqual(told(Classes, Crowd((1, 1, 1, 1)), lots, [0, 1], [
            [1, 2, half, 1], [half, 1, 2, 1], [2, half, 1, 1], [1, 1, 1, 2],
        ]), ("BadTable", -1))
        four = [[1, 4, quarter, 1], [quarter, 1, 4, 1], [4, quarter, 1, 1], [1, 1, 1, 1]]
        self.assertIsNone(told(Classes, Crowd((1, 1, 1, 1)), lots, [0, 1], four))
        last = [[1, 1, 1, 1, 1], [1, 1, 1, 1, 1], [1, 1, 1, 1, 1], [1, 1, 1, 1, 8], [1, 1, 1, eighth, 1]]
        self.assertEqual(told(Classes, Crowd((1,) * 5), [[0, 1], [2], [3, 4]], [0, 1, 2], last), ("BadTable", 3))

    def test_class_of_wrong_ones(self):
        classes = some_classes(Crowd((2, 1, 1)))
        for kind in (3, -1, None, "0", Ratio(1)):
            self.assertEqual(told(classes.class_of, kind), ("BadKind", kind))


class TestValue(unittest.TestCase):

    def test_against_all_pairs(self):
        seen = set()
        for crowd, parting in ((Crowd((1, 1, 1, 1)), ((0, 1, 2), (3,))), (Crowd((1, 2, 1, 1)), ((0, 2, 3), (1,)))):
            classes = some_classes(crowd, parting)
            for word in words_of(crowd):
                for line in (tuple(range(crowd.size)), list(range(crowd.size))[::-1], rings(crowd.size)[1].along):
                    found = classes.value(list(word), line)
                    self.assertIsInstance(found, Ratio)
                    self.assertEqual(fraction(found), value_by_hand(classes, word, line))
                    seen.add(fraction(found))
        self.assertLess(1, len(seen))

    def test_only(self):
        for crowd in (Crowd((1, 1, 1, 1)), Crowd((2, 1, 2, 1))):
            classes = some_classes(crowd, ((0, 2), (1,), (3,)))
            for word, lot in product(words_of(crowd)[:40], range(3)):
                expected = tuple(kind for kind in word if kind in classes.parting[lot])
                self.assertEqual(classes.only(lot, word), expected)
                self.assertEqual(classes.only(lot, list(word)), expected)

    def test_wrong_ones_in_order(self):
        classes = some_classes(Crowd((2, 1, 1)), ((0, 1), (2,)))
        for word, place in [(None, -1), ((0, 1, 2), -1), ((0, 0, 3, 9), 2), ((0, 1, 1, 2), -2), ("0012", -1)]:
            self.assertEqual(told(classes.value, word, None), ("BadWord", place))
            self.assertEqual(told(classes.only, 0, word), ("BadWord", place))
        for line, place in [
            (None, -1), ((0, 1, 2), -1), ((0, 1, 2, 3, 0), -1), ("0123", -1), ((0, 4, 9, 9), 4), ((0, 1, 1, 0), 1),
            ((3, 2, 1, -1), -1), ((0, 1, 2, None), None),
        ]:
            self.assertEqual(told(classes.value, (0, 0, 1, 2), line), ("BadPlace", place), line)
        for lot in (2, -1, None, "0", Ratio(1)):
            self.assertEqual(told(classes.only, lot, None), ("BadNumber", "lot"))

    def test_free_ratios(self):
        crowd = Crowd((1, 1, 2, 1, 1, 1))
        for lot, many in [((3,), 0), ([1, 0], 0), ((0, 1, 5), 1), ([4, 3, 2, 1], 3), ((0, 1, 2, 3, 4), 6), (range(6), 10)]:
            self.assertEqual(balanced_ratios(crowd, list(lot)), many)
        for lot, place in [(None, -1), ([], -1), ([0, 6], 1), ([1, 1], 1)]:
            self.assertEqual(told(balanced_ratios, crowd, lot), ("BadLot", place))
        self.assertEqual(balanced_ratios(Crowd((1,)), [0]), 0)


class TestRun(unittest.TestCase):

    def test_rates_at_each_step(self):
        for web, classes in class_cases():
            kinds = classes.crowd.kinds
            speeds = some_rows(web, kinds, seed=2)
            run = classes_run(web, classes, speeds)
            self.assertIsInstance(run, Run)
            self.assertEqual((run.web, run.kinds, run.filled), (web, kinds, True))
            for (p, r), row in zip(ring_steps_of(web), speeds):
                for (a, b), speed in zip(combinations(range(kinds), 2), row):
                    ahead, back = run.rate(p, r, a, b), run.rate(p, r, b, a)
                    if classes.class_of(a) == classes.class_of(b):
                        self.assertEqual((ahead, back), (speed * classes.ratios[a][b], speed))
                    else:
                        lean = classes.leans[classes.class_of(a)] - classes.leans[classes.class_of(b)]
                        self.assertEqual(back - ahead, lean)
                        self.assertEqual(ahead if lean.top > 0 else back, speed)

    def test_leans_of_one_and_less(self):
        crowd = Crowd((1, 1, 1))
        for leans in ([0, 1, 2], [2, 1, 0], [0, Ratio(1, 2), Ratio(-1, 3)]):
            run = classes_run(Web.ring(3), Classes(crowd, [[0], [1], [2]], leans, [[1] * 3] * 3), [[5, 6, 7]] * 3)
            for (p, r), (a, b) in product(((0, 1), (1, 2), (2, 0)), permutations(range(3), 2)):
                self.assertEqual(run.rate(p, r, b, a) - run.rate(p, r, a, b), Ratio(1) * leans[a] - leans[b])
                least = min(fraction(run.rate(p, r, b, a)), fraction(run.rate(p, r, a, b)))
                self.assertEqual(least, {(0, 1): 5, (0, 2): 6, (1, 2): 7}[min(a, b), max(a, b)])

    def test_lasting_shares(self):
        for web, classes in class_cases():
            crowd = classes.crowd
            table = class_table(web, classes)
            self.assertIsInstance(table, RatioTable)
            self.assertTrue(is_kept(table, crowd))
            shares = local_shares(table, crowd)
            self.assertTrue(is_lasting(classes_run(web, classes, some_rows(web, crowd.kinds)), shares))
            for p, r in ring_steps_of(web):
                for a, b in product(range(crowd.kinds), repeat=2):
                    self.assertEqual(table.at(p, r, a, b), classes.ratios[a][b])

    def test_solved(self):
        crowd = Crowd((1, 1, 1, 1))
        classes = some_classes(crowd, ((0, 1, 2), (3,)))
        for web in rings(4):
            run = classes_run(web, classes, some_rows(web, 4))
            self.assertEqual(lasting_shares(run, crowd), local_shares(class_table(web, classes), crowd))

    def test_wrong_ones_in_order(self):
        classes = some_classes(Crowd((2, 1, 1)), ((0,), (1, 2)))
        good = [[1, 1, 1]] * 4
        for web in (Web.ring(3), Web.row(5), Web.ring(5)):
            self.assertEqual(told(classes_run, web, classes, None), ("Unfit",))
            self.assertEqual(told(class_table, web, classes), ("Unfit",))
        for web in (Web.ring(4), Web.row(4), Web.star(4), Web.full(4)):
            for speeds, place in [
                (None, -1), ("1111", -1), (good[:3], -1), (good + good[:1], -1), ([None, [0]] + good[:2], 0),
                (good[:2] + [[1, 1], [1, 1, 0]], 2), (good[:3] + [[1, 1, 0]], 3), (good[:3] + [[1, 1, -1]], 3),
                (good[:3] + [[1, 1, 1, 1]], 3), (good[:3] + [[1, 1, None]], 3), (good[:1] + ["111"] + good[:2], 1),
            ]:
                self.assertEqual(told(classes_run, web, classes, speeds), ("BadTable", place), speeds)
        for web in some_webs(4):
            wrong = None if shape(web) == "ring" else ("NotRing",)
            self.assertEqual(told(classes_run, web, classes, good), wrong)
            self.assertEqual(told(class_table, web, classes), wrong)


class TestShares(unittest.TestCase):

    def test_by_values(self):
        for web, classes in class_cases():
            crowd = classes.crowd
            words = words_of(crowd)
            shares = local_shares(class_table(web, classes), crowd)
            values = [fraction(classes.value(word, web.along)) for word in words]
            self.assertEqual(share_chances(shares), [value / sum(values) for value in values])
            orders = [[classes.ratios[b][a] if a > b else Ratio(1) for b in range(crowd.kinds)] for a in range(crowd.kinds)]
            form = OrderForm(web, crowd, [[1] * crowd.kinds] * crowd.size, orders)
            self.assertEqual(form.laid(), shares)
            self.check_alike(web, classes, shares)

    def check_alike(self, web, classes, shares):
        steps = dict(ring_steps_of(web))
        found = {}
        for word in words_of(classes.crowd):
            along = [word[place] for place in web.along]
            order = tuple(tuple(kind for kind in along if kind in lot) for lot in classes.parting)
            self.assertEqual(found.setdefault(order, shares[word]), shares[word])
            if web == Web.ring(web.size):
                self.assertEqual(order, tuple(classes.only(lot, word) for lot in range(len(classes.parting))))
            moved = [None] * web.size
            for place, kind in enumerate(word):
                moved[steps[place]] = kind
            self.assertEqual(shares[moved], shares[word])

    def test_tables_that_turn_round(self):
        seen = set()
        for web in rings(3) + rings(4):
            for crowd in (Crowd((web.size - 1, 1)), Crowd((web.size - 2, 1, 1))):
                tables = [kept_table(web, crowd), RatioTable.even(web, crowd.kinds)]
                tables.append(class_table(web, some_classes(crowd)))
                # Read along, these are the same at each step; the product for each kind is 1.
                if crowd.kinds == 3:
                    x, y, z = Ratio(2), Ratio(2).to_power(crowd.counts[0]), Ratio(1, 2)
                    step = [[1, x, z], [x.inverse(), 1, y], [z.inverse(), y.inverse(), 1]]
                    entries = {(p, r): step for p, r in ring_steps_of(web)}
                    tables.append(RatioTable(web, 3, [
                        entries.get(tie) or [list(column) for column in zip(*step)] for tie in web.ties
                    ]))
                for table in tables:
                    if is_kept(table, crowd):
                        seen.add(self.check_turned(web, table, crowd))
        self.assertEqual(seen, {True, False})

    def check_turned(self, web, table, crowd):
        steps = ring_steps_of(web)
        span = range(crowd.kinds)
        read = [[[table.at(p, r, a, b) for b in span] for a in span] for p, r in steps]
        same = all(one == read[0] for one in read)
        shares = local_shares(table, crowd)
        turned = all(
            shares[[dict((r, word[p]) for p, r in steps)[place] for place in range(web.size)]] == shares[word]
            for word in words_of(crowd)
        )
        self.assertIs(turned, same)
        if same:
            for u, a in product(range(web.size), span):
                self.assertEqual(shares.at_place(u, a), Ratio(crowd.counts[a], crowd.size))
        return same

    def test_chances_and_flows(self):
        for web, classes in class_cases():
            crowd, n = classes.crowd, classes.crowd.size
            run = classes_run(web, classes, some_rows(web, crowd.kinds))
            shares = local_shares(class_table(web, classes), crowd)
            self.assertIsInstance(shares, Shares)
            heights = [classes.leans[classes.class_of(a)] for a in range(crowd.kinds)]
            total = Ratio(0)
            for height, count in zip(heights, crowd.counts):
                total = total + height * count
            mean = total.over(n)
            for a, count in enumerate(crowd.counts):
                for u in range(n):
                    self.assertEqual(shares.at_place(u, a), Ratio(count, n))
                for p, r in ring_steps_of(web):
                    self.assertEqual(share_flow(run, shares, p, r, a), (mean - heights[a]) * Ratio(count, n - 1))
            for a, b in permutations(range(crowd.kinds), 2):
                if classes.class_of(a) != classes.class_of(b):
                    chance = Ratio(crowd.counts[a] * crowd.counts[b], n * (n - 1))
                    for u, v in permutations(range(n), 2):
                        self.assertEqual(shares.at_two(u, a, v, b), chance)
