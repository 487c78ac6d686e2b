"""[114] to [118]: runs with two rates at each tie, and the cuts of their ordered kinds."""

import unittest
from itertools import combinations, product
from math import comb

from steprows.backs import backwards, backwards_by
from steprows.crowds import Crowd
from steprows.cuts import cut, cut_chance, cut_flow, cuts_run_round, rates_of_cuts, two_rates
from steprows.evens import is_even
from steprows.flows import share_flow
from steprows.joins import joined_crowd, joined_run, joining, joins
from steprows.lots import all_partings, joinable_lots
from steprows.ratios import Ratio
from steprows.rings import ring_word
from steprows.rounds import round_product
from steprows.runs import Run
from steprows.shapes import rounds, shape
from steprows.shares import table_in
from steprows.solving import lasting_shares
from steprows.spread import is_spread, spreads
from steprows.standing import standing_run, stands, table_of_run
from steprows.tables import table_of
from steprows.webs import Web
from tests.common import (
    BIG_CROWD, Numbers, all_ratios, circulation, fraction, is_round, loose_threefold, ratio, ring_steps_of, some_run,
    some_webs, told,
)


def any_rates(web, seed=1, zeros=False):
    """Arbitrary rates ahead and behind."""
    numbers = Numbers(seed)
    rows = [[numbers.ratio() for _ in web] for _ in range(2)]
    if zeros:
        rows = [[one * numbers.below(2) for one in row] for row in rows]
    return rows


def round_rates(web, seed=1):
    """Rates ahead and behind whose differences run round the web."""
    numbers = Numbers(seed)
    around = circulation(web, numbers)
    found = [around[tie] for tie in web.ties]
    speeds = [numbers.ratio() for _ in web]
    ahead = [speed + ratio(max(one, 0)) for speed, one in zip(speeds, found)]
    behind = [speed + ratio(max(-one, 0)) for speed, one in zip(speeds, found)]
    return ahead, behind


def two(web, kinds, rates):
    return two_rates(web, kinds, ahead=rates[0], behind=rates[1])


class TestTwoRates(unittest.TestCase):

    def test_rates(self):
        for web in some_webs(4):
            for kinds in (2, 3, 6):
                ahead, behind = any_rates(web, zeros=True)
                run = two_rates(web, kinds, behind=tuple(behind), ahead=ahead)
                self.assertIsInstance(run, Run)
                self.assertEqual((run.web, run.kinds), (web, kinds))
                for number, (u, v) in enumerate(web):
                    for a, b in combinations(range(kinds), 2):
                        self.assertEqual(run.rate(u, v, a, b), ahead[number])
                        self.assertEqual(run.rate(u, v, b, a), behind[number])
                        self.assertEqual(run.rate(v, u, a, b), behind[number])
                found = rates_of_cuts(run)
                self.assertEqual(found, (tuple(ahead), tuple(behind)))
                self.assertTrue(isinstance(found, tuple) and all_ratios(found))

    def test_integers(self):
        run = two_rates(Web.row(3), 2, ahead=[2, 0], behind=(0, 1))
        self.assertEqual(rates_of_cuts(run), ((2, 0), (0, 1)))
        self.assertTrue(all_ratios(rates_of_cuts(run)))

    def test_runs_without_two_rates(self):
        for web in (Web.row(3), Web.ring(4)):
            for kinds in (3, 4):
                run = two(web, kinds, any_rates(web))
                for number, (a, b) in product((0, len(web) - 1), [(0, 1), (kinds - 2, kinds - 1), (0, kinds - 1)]):
                    for first, second in ((a, b), (b, a)):
                        rates = [[list(row) for row in table] for table in run.rates]
                        rates[number][first][second] = rates[number][first][second] + 1
                        self.assertIsNone(rates_of_cuts(Run(web, kinds, rates)))
        for web in some_webs(4):
            self.assertIsNone(rates_of_cuts(some_run(web, 3)))
            self.assertIsNotNone(rates_of_cuts(some_run(web, 2)))

    def test_wrong_ones_in_order(self):
        web = Web.row(4)
        for kinds in (1, 7, None, "2", Ratio(2)):
            self.assertEqual(told(two_rates, web, kinds, ahead=None, behind=None), ("BadNumber", "kinds"))
        for row, place in [
            (None, -1), ("111", -1), ([1, 1], -1), ([1, 1, 1, 1], -1), ([-1, None, 1], 0), ([1, None, -1], 1),
            ([1, 1, Ratio(-1, 2)], 2), ([1, "1", 1], 1), ([1, 1, True], 2), ({0: 1, 1: 1, 2: 1}, -1),
        ]:
            self.assertEqual(told(two_rates, web, 2, ahead=row, behind=None), ("BadTable", place), row)
            self.assertEqual(told(two_rates, web, 2, ahead=[0, 0, 1], behind=row), ("BadTable", place), row)
        self.assertEqual(told(two_rates, web, 2, ahead=[1, 1, -1], behind=[-1, 1, 1]), ("BadTable", 2))


class TestCut(unittest.TestCase):

    def test_cuts(self):
        for kinds in range(2, 7):
            for c in range(kinds - 1):
                self.assertEqual(cut(kinds, c), (tuple(range(c + 1)), tuple(range(c + 1, kinds))))

    def test_wrong_ones_in_order(self):
        for kinds in (1, 7, 0, None, "2", Ratio(2)):
            self.assertEqual(told(cut, kinds, None), ("BadNumber", "kinds"))
        for c in (2, 3, -1, None, "0", Ratio(0)):
            self.assertEqual(told(cut, 3, c), ("BadKind", c))
        self.assertEqual(told(cut, 2, 1), ("BadKind", 1))

    def test_just_runs_with_two_rates_join_at_all_cuts(self):
        seen = set()
        for web in (Web.row(3), Web.star(4), Web.ring(4)):
            for kinds in (2, 3, 4):
                rates = any_rates(web)
                level = two(web, kinds, (rates[0], rates[0]))
                spoilt = [[list(row) for row in table] for table in level.rates]
                spoilt[-1][0][kinds - 1] = spoilt[-1][0][kinds - 1] + 1
                for run in (two(web, kinds, rates), level, Run(web, kinds, spoilt), some_run(web, kinds)):
                    both = rates_of_cuts(run)
                    everywhere = all(joins(run, cut(kinds, c)) for c in range(kinds - 1))
                    self.assertIs(everywhere, both is not None)
                    every = joining(run) == all_partings(kinds)
                    if kinds > 2:
                        self.assertIs(every, both is not None and both[0] == both[1])
                    else:
                        self.assertTrue(every)
                    seen.add((everywhere, every))
        self.assertEqual(seen, {(True, True), (True, False), (False, False)})

    def test_joinable_lots(self):
        for web in (Web.row(3), Web.ring(4)):
            for kinds in (3, 4, 5):
                run = two(web, kinds, any_rates(web))
                gapless = [tuple(range(low, low + many)) for many in range(1, kinds + 1) for low in range(kinds + 1 - many)]
                self.assertEqual(joinable_lots(run), gapless)
                crowd = Crowd([1] * (kinds - 1) + [max(1, web.size + 1 - kinds)])
                if crowd.size == web.size and crowd.many < 37:
                    shares = lasting_shares(run, crowd)
                    for lot in gapless[kinds:-1]:
                        self.assertIs(spreads(run, crowd, lot), False)
                        self.assertIs(is_spread(shares, lot), False)


class TestDifferences(unittest.TestCase):

    def test_run_round(self):
        seen = set()
        for size in (3, 4, 5):
            for web in some_webs(size):
                for kinds in (2, 3):
                    for rates in (any_rates(web), round_rates(web), ([1] * len(web), [1] * len(web))):
                        run = two(web, kinds, rates)
                        leans = [there - back for there, back in zip(*rates)]
                        self.assertIs(cuts_run_round(run), is_round(web, leans))
                        for counts in ((size - 1, 1), (1, size - 1)):
                            crowd = Crowd(counts)
                            for c in range(kinds - 1):
                                self.assertIs(is_even(joined_run(run, cut(kinds, c)), crowd), is_round(web, leans))
                        if kinds == 3:
                            even = is_even(run, Crowd((size - 2, 1, 1)))
                            self.assertIs(even, not any(fraction(lean) for lean in leans))
                        seen.add((cuts_run_round(run), any(fraction(lean) for lean in leans)))
        self.assertEqual(seen, {(True, True), (True, False), (False, True)})

    def test_wrong_ones(self):
        self.assertEqual(told(cuts_run_round, some_run(Web.ring(3), 3)), ("NotJoined",))
        self.assertIs(cuts_run_round(some_run(Web.ring(3), 2)), False)


class TestFlows(unittest.TestCase):

    def test_formula(self):
        for web in some_webs(4):
            for crowd in (Crowd((3, 1)), Crowd((1, 2, 1)), Crowd((1, 1, 1, 1))):
                for zeros in (False, True):
                    rates = any_rates(web, zeros=zeros)
                    run = two(web, crowd.kinds, rates)
                    for number, (u, v) in enumerate(web):
                        for a in range(crowd.kinds):
                            big = sum(crowd.counts[:a + 1])
                            small = sum(crowd.counts[:a])
                            part = Ratio(big * (4 - big) - small * (4 - small), 12)
                            expected = (rates[0][number] - rates[1][number]) * part
                            found = cut_flow(run, crowd, u, v, a)
                            self.assertIsInstance(found, Ratio)
                            self.assertEqual(found, expected)
                            self.assertEqual(cut_flow(run, crowd, v, u, a), -expected)

    def test_against_solved_shares(self):
        seen = set()
        for web, crowd in (
            (Web.ring(3), Crowd((1, 1, 1))), (Web.ring(4), Crowd((1, 2, 1))), (Web.full(4), Crowd((1, 1, 2))),
            (Web.ring(4), Crowd((1, 1, 1, 1))), (Web.ring(5) + (0, 2), Crowd((2, 2, 1))), (Web.ring(5), Crowd((2, 3))),
        ):
            run = two(web, crowd.kinds, round_rates(web))
            shares = lasting_shares(run, crowd)
            n = crowd.size
            for a in range(crowd.kinds):
                for u, v in web:
                    flow = share_flow(run, shares, u, v, a)
                    self.assertEqual(cut_flow(run, crowd, u, v, a), flow)
                    self.assertEqual(cut_flow(run, crowd, v, u, a), -flow)
                    seen.add(bool(flow))
                for u in range(n):
                    self.assertEqual(shares.at_place(u, a), Ratio(crowd.counts[a], n))
            self.check_sets(crowd, shares)
        self.assertEqual(seen, {True, False})

    def check_sets(self, crowd, shares):
        for c in range(crowd.kinds - 1):
            joined = joined_crowd(crowd, cut(crowd.kinds, c))
            sums = {}
            for word, weight in zip(self.words(crowd), shares.weights):
                places = tuple(kind <= c for kind in word)
                sums[places] = sums.get(places, 0) + weight
            self.assertEqual(len(sums), joined.many)
            for weight in sums.values():
                self.assertEqual(Ratio(weight, shares.bottom), cut_chance(crowd, c))

    def words(self, crowd):
        row = [kind for kind, count in enumerate(crowd.counts) for _ in range(count)]
        return sorted(set(self.orders(tuple(row))))

    def orders(self, row):
        if len(row) < 2:
            return [row]
        return [
            (kind,) + rest for kind in set(row)
            for rest in self.orders(row[:row.index(kind)] + row[row.index(kind) + 1:])
        ]

    def test_chances(self):
        for counts in ((2, 1), (1, 2, 1), (1, 1, 1, 1), (2, 2, 1, 1, 1, 1)):
            for c in range(len(counts) - 1):
                found = cut_chance(Crowd(counts), c)
                self.assertIsInstance(found, Ratio)
                self.assertEqual(found, Ratio(1, comb(sum(counts), sum(counts[:c + 1]))))
        for c in (2, 3, -1, None, "0", Ratio(0)):
            self.assertEqual(told(cut_chance, Crowd((1, 2, 1)), c), ("BadKind", c))
        self.assertEqual(told(cut_chance, Crowd((3,)), 0), ("BadKind", 0))

    def test_many_words(self):
        run = two_rates(Web.ring(8), 6, ahead=[1, 0, 1, 1, 1, 1, 1, 1], behind=[0, 1, 0, 0, 0, 0, 0, 0])
        self.assertEqual(cut_flow(run, BIG_CROWD, 0, 1, 0), Ratio(12, 56))
        self.assertEqual(cut_flow(run, BIG_CROWD, 0, 7, 5), Ratio(7, 56))

    def test_wrong_ones_in_order(self):
        web, crowd = Web.row(4), Crowd((2, 1, 1))
        run, other = two(web, 3, any_rates(web)), some_run(web, 3)
        for wrong in (Crowd((2, 2)), Crowd((1, 1, 1)), Crowd((4,))):
            self.assertEqual(told(cut_flow, other, wrong, 9, 9, 9), ("Unfit",))
        for u, v, a, wrong in [
            (4, 9, 9, ("BadPlace", 4)), (0, -1, 9, ("BadPlace", -1)), (1, 1, 9, ("BadPlace", 1)),
            (2, 0, 9, ("NoTie", 2, 0)), (1, 0, 3, ("BadKind", 3)), (0, 1, "0", ("BadKind", "0")),
            (0, 1, 0, ("NotJoined",)),
        ]:
            self.assertEqual(told(cut_flow, other, crowd, u, v, a), wrong)
        self.assertIsNone(told(cut_flow, run, crowd, 0, 1, 0))


class TestStanding(unittest.TestCase):

    def along_rates(self, web, value):
        """Rates with the ratio P/Q, read along the line, the same at each tie."""
        steps = list(zip(web.along, web.along[1:] + web.along[:1]))
        numbers = Numbers(4)
        behind = numbers.ratios(len(web))
        return [back * (value if tie in steps else value.inverse()) for tie, back in zip(web, behind)], behind

    def test_three_kinds_and_more(self):
        seen = set()
        for size in (3, 4):
            for web in some_webs(size):
                for kinds in (3, size):
                    crowd = Crowd([size + 1 - kinds] + [1] * (kinds - 1))
                    ahead, behind = any_rates(web)
                    cases = [(ahead, behind), (ahead, ahead), round_rates(web)]
                    if web.along is not None:
                        cases += [self.along_rates(web, Ratio(2)), self.along_rates(web, Ratio(1, 3))]
                        early, late = self.along_rates(web, Ratio(2))
                        cases.append((early[:-1] + [early[-1] * 2], late))
                    for rates in cases:
                        run = two(web, kinds, rates)
                        level = all(there == back for there, back in zip(*rates))
                        same = False
                        if shape(web) == "row":
                            steps = list(zip(web.along, web.along[1:]))
                            same = len({run.rate(p, r, 0, 1).over(run.rate(p, r, 1, 0)).told() for p, r in steps}) == 1
                        self.assertIs(stands(run, crowd), level or same)
                        seen.add((level, same))
        self.assertEqual(seen, {(True, True), (True, False), (False, True), (False, False)})

    def test_two_kinds(self):
        seen = set()
        for web in some_webs(4):
            values = Numbers(3).ratios(4)
            behind = Numbers(2).ratios(len(web))
            closed = [back * values[u].over(values[v]) for (u, v), back in zip(web, behind)]
            for rates in (any_rates(web), (closed, behind)):
                run = two(web, 2, rates)
                ratios = table_of(web, 2, [[there.over(back)] for there, back in zip(*rates)])
                around = all(round_product(ratios, ring, 0, 1) == 1 for ring in rounds(web))
                self.assertIs(stands(run, Crowd((2, 2))), around)
                seen.add(around)
        self.assertEqual(seen, {True, False})


class TestBackwards(unittest.TestCase):

    def test_of_the_cuts(self):
        for web in some_webs(4):
            for crowd in (Crowd((2, 1, 1)), Crowd((1, 1, 1, 1))):
                rates = round_rates(web)
                run, turned = two(web, crowd.kinds, rates), two(web, crowd.kinds, rates[::-1])
                for c in range(crowd.kinds - 1):
                    parting = cut(crowd.kinds, c)
                    joined, less = joined_run(run, parting), joined_crowd(crowd, parting)
                    self.assertEqual(backwards(joined, less), joined_run(turned, parting))

    def test_loose_ones_are_local_if_they_stand(self):
        # 400 words and fewer are too many to solve for; [95] and [99] tell instead.
        for size, crowd in ((6, Crowd((2, 2, 2))), (7, Crowd((2, 3, 2)))):
            web = Web.ring(size)
            for rates in (any_rates(web), round_rates(web), ([2] * size, [2] * size)):
                run = two(web, 3, rates)
                self.assertEqual(ring_word(run, crowd), "stands" if stands(run, crowd) else "neither")
        for web in loose_threefold()[2:4]:
            crowd = Crowd((2, 2, web.size - 4))
            run = two(web, 3, round_rates(web))
            self.assertFalse(stands(run, crowd))
            self.assertIn(told(backwards_by, run, table_of_run(run), crowd)[0], ("NotKept", "NotLocal"))

    def test_small_ones_whose_backwards_is_no_run(self):
        web, crowd = Web.ring(4), Crowd((1, 1, 2))
        run = two(web, 3, round_rates(web))
        self.assertIsNone(table_in(web, lasting_shares(run, crowd)))
        self.assertIsNone(backwards(run, crowd))

    def test_standing_ones_by_their_table(self):
        web = Web.row(4)
        run = two(web, 3, TestStanding().along_rates(web, Ratio(3)))
        table = table_of_run(run)
        self.assertEqual(standing_run(table, [[1, 1, 1]] * 3).rate(0, 1, 1, 0), Ratio(1, 3))
        self.assertEqual(backwards(run, Crowd((1, 1, 2))), run)

    def test_rings_with_lines_of_any_order(self):
        for web in some_webs(5):
            if shape(web) == "ring":
                steps = ring_steps_of(web)
                ahead = [3 if tie in steps else 1 for tie in web]
                run = two_rates(web, 2, ahead=ahead, behind=[4 - one for one in ahead])
                self.assertTrue(cuts_run_round(run))
                self.assertEqual(ring_word(run, Crowd((3, 2))), "classes")
