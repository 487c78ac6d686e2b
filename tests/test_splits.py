"""[65] to [68]: the standing and the turning part of a run, and pushed runs."""

import unittest
from fractions import Fraction
from itertools import combinations, product

from steprows.backs import backwards, backwards_by
from steprows.crowds import Crowd
from steprows.lasting import flow_function, lasts
from steprows.pairs import PairSum
from steprows.ratios import Ratio
from steprows.runs import Run
from steprows.shapes import is_tree
from steprows.shares import local_shares, table_in
from steprows.small import vanishes
from steprows.solving import lasting_shares
from steprows.splits import Split, joined_split, turns_back
from steprows.standing import is_lasting, is_standing, standing_run, table_of_run
from steprows.tables import RatioTable
from steprows.webs import Web
from tests.common import (
    Numbers, all_ratios, changed, even_run, fraction, kept_table, ratio, some_rows, some_run, some_standing_run,
    some_table, some_webs, told,
)

HALF = Ratio(1, 2)


def entries(web, kinds):
    """All numbers of ties with two kinds."""
    return product(range(len(web)), range(kinds), range(kinds))


def some_splits(web, kinds):
    """Runs with tables that are kept, that are not, and that are their own."""
    crowd = Crowd([web.size + 1 - kinds] + [1] * (kinds - 1))
    run, even = some_run(web, kinds), even_run(web, kinds)
    return [
        (run, kept_table(web, crowd)), (run, some_table(web, kinds)), (run, RatioTable.even(web, kinds)),
        (run, table_of_run(run)), (even, RatioTable.even(web, kinds)), (even, table_of_run(even)),
        (some_standing_run(web, crowd), kept_table(web, crowd)),
    ]


def some_turning(table, seed=1):
    """Entries of any sign that turn back by the table."""
    numbers = Numbers(seed)
    found = []
    for tie in table.entries:
        part = [[Ratio(0)] * table.kinds for _ in range(table.kinds)]
        for b in range(table.kinds):
            for a in range(b):
                part[b][a] = numbers.ratio() - numbers.ratio()
                part[a][b] = -(tie[a][b] * part[b][a])
        found.append(part)
    return found


def turning_pairs(web, kinds, turning):
    """The pair sum with the entries -2J, 0 at non-ties."""
    parts = dict(zip(web.ties, turning))
    return PairSum(web.size, kinds, [
        [[entry * -2 for entry in row] for row in parts.get(pair, [[0] * kinds] * kinds)]
        for pair in combinations(range(web.size), 2)
    ])


def has_rate_below(split, number):
    return any(
        fraction(split.standing.rates[tie][a][b]) + fraction(number) * fraction(split.turning[tie][a][b]) < 0
        for tie, a, b in entries(split.standing.web, split.standing.kinds)
    )


class TestParts(unittest.TestCase):

    def test_formula(self):
        for size in (3, 4):
            for web in some_webs(size):
                for kinds in (2, 3):
                    for run, table in some_splits(web, kinds):
                        self.check_parts(run, table)

    def check_parts(self, run, table):
        split = Split(run, table)
        standing, turning = split.standing, split.turning
        self.assertIsInstance(standing, Run)
        self.assertEqual((standing.web, standing.kinds, standing.filled), (run.web, run.kinds, True))
        self.assertEqual(split.ratio_table, table)
        self.assertEqual(split.as_run(), run)
        self.assertTrue(all_ratios(turning))
        self.assertEqual([len(part) for part in turning], [run.kinds] * len(run.web))
        flow = flow_function(run, table)
        for tie, a, b in entries(run.web, run.kinds):
            u, v = run.web.ties[tie]
            there, back, step = run.rate(u, v, a, b), run.rate(u, v, b, a), table.at(u, v, a, b)
            self.assertEqual(standing.rate(u, v, a, b), (there + step * back) * HALF)
            self.assertEqual(turning[tie][a][b], there - standing.rate(u, v, a, b))
            self.assertEqual(flow.at(u, v, a, b), turning[tie][a][b] * -2)
        self.assertEqual(table_of_run(standing), table)
        self.assertIs(turns_back(run.web, table, turning), True)
        self.assertIs(split.still, table == table_of_run(run))
        self.assertEqual(joined_split(standing, turning), run)

    def test_no_other_parts(self):
        # Whatever stands by the table and whatever turns back by it are found again.
        for web in some_webs(4):
            table = some_table(web, 3)
            standing = standing_run(table, some_rows(web, 3)) * 20
            turning = some_turning(table)
            split = Split(joined_split(standing, turning), table)
            self.assertEqual(split.standing, standing)
            self.assertEqual(split.turning, tuple(tuple(tuple(row) for row in part) for part in turning))

    def test_standing_where_the_table_is_kept(self):
        for web in some_webs(4):
            for crowd in (Crowd((2, 2)), Crowd((2, 1, 1))):
                table = kept_table(web, crowd)
                split = Split(some_run(web, crowd.kinds), table)
                self.assertIs(is_standing(split.standing, local_shares(table, crowd)), True)

    def test_wrong_ones_in_order(self):
        part = some_run(Web.row(4), 3, zeros=True)
        self.assertEqual(told(Split, part, some_table(Web.row(4), 3)), ("NotFull",))
        for table in (some_table(Web.star(4), 3), some_table(Web.row(4), 2), some_table(Web.row(5), 3)):
            self.assertEqual(told(Split, part, table), ("Unfit",))


class TestPushed(unittest.TestCase):

    def test_ends(self):
        for web in some_webs(4):
            for kinds in (2, 3):
                for run, table in some_splits(web, kinds):
                    split = Split(run, table)
                    ends = split.ends()
                    self.assertIsInstance(ends, tuple)
                    if split.still:
                        self.assertEqual(ends, (None, None))
                        for number in (0, 1, -1, 10 ** 9, Ratio(-7, 2)):
                            self.assertEqual(split.pushed(number), split.standing)
                        continue
                    self.assertTrue(all_ratios(ends))
                    self.check_ends(split, *map(fraction, ends))

    def check_ends(self, split, low, high):
        self.assertEqual(low, -high)
        self.assertGreater(high, 1)
        grain = Fraction(1, 1000)
        for number in (low, high, low + grain, high - grain, 0, 1, -1, low / 3, high / 3, low - grain, high + grain,
                       3 * low, 3 * high):
            below = has_rate_below(split, number)
            self.assertIs(below, not low <= number <= high)
            if below:
                self.assertEqual(told(split.pushed, ratio(Fraction(number))), ("BadNumber", "number"))
                continue
            pushed = split.pushed(ratio(Fraction(number)))
            self.assertIs(pushed.filled, low < number < high)
            for tie, a, b in entries(pushed.web, pushed.kinds):
                expected = split.standing.rates[tie][a][b] + split.turning[tie][a][b] * ratio(Fraction(number))
                self.assertEqual(pushed.rates[tie][a][b], expected)
        self.assertEqual(split.pushed(0), split.standing)
        self.assertEqual(split.pushed(1), split.as_run())

    def test_wrong_numbers(self):
        for split in (Split(some_run(Web.row(3), 2), RatioTable.even(Web.row(3), 2)),
                      Split(Run.level(Web.row(3), 2), RatioTable.even(Web.row(3), 2))):
            for number in (None, "1", 0.5, split):
                self.assertEqual(told(split.pushed, number), ("BadNumber", "number"))

    def test_what_lasts(self):
        for web in some_webs(4):
            for crowd in (Crowd((3, 1)), Crowd((2, 1, 1))):
                run = even_run(web, crowd.kinds)
                self.check_lasting(run, RatioTable.even(web, crowd.kinds), crowd)
                run = some_run(web, crowd.kinds)
                table = table_in(web, lasting_shares(run, crowd))
                self.assertIs(table is not None, crowd.kinds == 2)
                if table is not None:
                    self.check_lasting(run, table, crowd)

    def check_lasting(self, run, table, crowd):
        split, shares = Split(run, table), local_shares(table, crowd)
        self.assertIs(lasts(run, table, crowd), True)
        if split.still:
            return
        low, high = split.ends()
        for part in (Ratio(1), Ratio(1, 3), Ratio(-2, 3), Ratio(0), Ratio(-1)):
            number = high * part
            pushed = split.pushed(number)
            self.assertIs(is_lasting(pushed, shares), True)
            if pushed.filled:
                self.assertEqual(backwards(pushed, crowd), split.pushed(-number))
                self.assertEqual(backwards_by(pushed, table, crowd), split.pushed(-number))

    def test_what_does_not_last(self):
        for web in some_webs(4):
            for crowd in (Crowd((2, 2)), Crowd((2, 1, 1))):
                run, table = some_run(web, crowd.kinds), kept_table(web, crowd)
                if table == table_of_run(run):
                    continue
                split, shares = Split(run, table), local_shares(table, crowd)
                self.assertIs(lasts(run, table, crowd), False)
                low, high = split.ends()
                for part in (Ratio(1), Ratio(1, 5), Ratio(-1, 7), Ratio(-1)):
                    self.assertIs(is_lasting(split.pushed(high * part), shares), False)
                self.assertIs(is_lasting(split.pushed(0), shares), True)

    def test_example(self):
        run = Run(Web.ring(3), 2, [[[0, 1], [2, 0]], [[0, 1], [1, 0]], [[0, 1], [1, 0]]])
        split = Split(run, table_in(Web.ring(3), lasting_shares(run, Crowd((2, 1)))))
        low, high = split.ends()
        found = (low.told(), high.told(), split.turning[1][1][0].told(), split.still)
        self.assertEqual(found, ("-7", "7", "-1/6", False))
        self.assertEqual(split.standing.rate(0, 2, 1, 0).told(), "7/6")


class TestTurnsBack(unittest.TestCase):

    def test_answers(self):
        for web in some_webs(4):
            table = some_table(web, 3)
            turning = some_turning(table)
            self.assertIs(turns_back(web, table, turning), True)
            self.assertIs(turns_back(web, table, tuple(tuple(tuple(row) for row in part) for part in turning)), True)
            self.assertIs(turns_back(web, table, [[[0] * 3] * 3] * len(web)), True)
            for tie, a, b in entries(web, 3):
                wrong = some_turning(table)
                wrong[tie][a][b] = wrong[tie][a][b] + 1
                self.assertIs(turns_back(web, table, wrong), False)
        web, flat = Web.row(3), RatioTable.even(Web.row(3), 2)
        self.assertIs(turns_back(web, flat, [[[0, 1], [-1, 0]], [[0, -5], [5, 0]]]), True)
        self.assertIs(turns_back(web, flat, [[[0, 1], [1, 0]], [[0, 0], [0, 0]]]), False)
        self.assertIs(turns_back(web, flat, [[[0, 0], [0, 0]], [[0, 0], [0, 1]]]), False)

    def test_wrong_ones(self):
        table, good = RatioTable.even(Web.row(3), 2), [[0, 1], [-1, 0]]
        for web in (Web.ring(3), Web.row(4), Web(3, [(0, 1), (0, 2)])):
            self.assertEqual(told(turns_back, web, table, None), ("Unfit",))
        for turning, place in [
            (None, -1), ("ab", -1), ([good], -1), ([good] * 3, -1), ([good, None], 1), ([5, None], 0),
            ([good, [[0, 1]]], 1), ([good, [[0, 1], [1]]], 1), ([[[0, "1"], [1, 0]], 5], 0),
            ([good, [[0, 0, 0]] * 3], 1), ([good, [[0, 1.0], [1, 0]]], 1), ([[[1, 1], [1, 1]], 7], 1),
        ]:
            self.assertEqual(told(turns_back, Web.row(3), table, turning), ("BadTable", place), turning)


class TestJoinedSplit(unittest.TestCase):

    def test_rates(self):
        run = Run(Web.row(3), 2, [[[0, 1], [2, 0]], [[0, 3], [4, 0]]])
        joined = joined_split(run, (((0, -1), (HALF, 0)), [[0, 0], [-3, 0]]))
        self.assertEqual(joined, Run(Web.row(3), 2, [[[0, 0], [Ratio(5, 2), 0]], [[0, 3], [1, 0]]]))
        part = Run(Web.row(3), 2, [[[0, 0], [2, 0]], [[0, 3], [4, 0]]])
        self.assertEqual(joined_split(part, [[[0, 5], [0, 0]], [[0, 0], [0, 0]]]).rate(0, 1, 0, 1), 5)

    def test_what_lasts(self):
        seen = set()
        for web in some_webs(4):
            for crowd in (Crowd((2, 2)), Crowd((2, 1, 1))):
                kinds = crowd.kinds
                table = kept_table(web, crowd)
                standing = standing_run(table, some_rows(web, kinds)) * 1000
                even = Split(even_run(web, kinds), RatioTable.even(web, kinds))
                for one, run, turning in [
                    (table, standing, some_turning(table)), (table, standing, [[[0] * kinds] * kinds] * len(web)),
                    (even.ratio_table, even.standing, even.turning),
                ]:
                    zero = vanishes(turning_pairs(web, kinds, turning), crowd)
                    seen.add((zero, is_tree(web)))
                    self.assertIs(is_lasting(joined_split(run, turning), local_shares(one, crowd)), zero)
        self.assertEqual(seen, set(product((True, False), repeat=2)))

    def test_wrong_ones_in_order(self):
        run = Run(Web.row(3), 2, [[[0, 1], [2, 0]], [[0, 3], [4, 0]]])
        good, below = [[0, 1], [-1, 0]], [[0, -2], [0, 0]]
        for turning, place in [
            (None, -1), ("ab", -1), ([good], -1), ([good] * 3, -1), ([below, None], 1), ([below, [[0, 0]]], 1),
            ([below, [[0, 0], [0, 1]]], 1), ([[[1, 0], [0, 0]], 5], 0), ([below, [[0, "0"], [0, 0]]], 1),
            ([below, [[0, 0], [0.5, 0]]], 1), ([good, [[0, 0, 0]] * 3], 1),
        ]:
            self.assertEqual(told(joined_split, run, turning), ("BadTable", place), turning)
        for turning in ([below, good], [good, [[0, 0], [-5, 0]]], [good, [[0, Ratio(-31, 10)], [0, 0]]]):
            self.assertEqual(told(joined_split, run, turning), ("BadNumber", "turning"))
        self.assertIsNone(told(joined_split, run, [[[0, -1], [-2, 0]], [[0, -3], [-4, 0]]]))

    def test_an_unkept_table_is_split_all_the_same(self):
        table = changed(RatioTable.even(Web.ring(4), 2), 0, 0, 1)
        split = Split(Run.level(Web.ring(4), 2), table)
        self.assertEqual((split.standing.rate(0, 1, 0, 1).told(), split.turning[0][0][1].told()), ("4", "-3"))
        self.assertEqual((split.standing.rate(0, 1, 1, 0).told(), split.turning[0][1][0].told()), ("4/7", "3/7"))
        self.assertEqual([end.told() for end in split.ends()], ["-4/3", "4/3"])
