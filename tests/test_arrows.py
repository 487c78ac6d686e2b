"""[37] to [39]: told arrows and the four cases in which their run stands."""

import unittest
from fractions import Fraction
from itertools import combinations, permutations, product

from steprows.arrows import Arrows, arrow_case, arrow_shares, kind_round
from steprows.crowds import Crowd, words_of
from steprows.ratios import Ratio
from steprows.runs import Run
from steprows.shapes import is_tree
from steprows.shares import Shares, local_shares
from steprows.standing import is_standing, standing_shares, stands, table_of_run, walk_rates
from steprows.walks import round_walk
from steprows.webs import Web
from tests.common import (
    BIG_CROWD, Numbers, all_ratios, chances_of, fraction, renamed, share_chances, small_crowds, some_webs, told,
)

HALF = Ratio(1, 2)
RATES = ((0, 2, 2), (1, 0, 2), (1, 1, 0))


def arrows_on(web, turned, rates, seed=1):
    """Arrows with arbitrary speeds; turned tells for each tie whether its arrow ends at the lesser place."""
    numbers = Numbers(seed)
    return Arrows(web, [
        (v, u, numbers.ratio()) if turn else (u, v, numbers.ratio()) for (u, v), turn in zip(web.ties, turned)
    ], rates)


def all_turns(web):
    return list(product((False, True), repeat=len(web)))


def rates_by(ratios, kinds):
    """A table of rates with these ratios r(a,b), a < b."""
    numbers = Numbers(kinds)
    table = [[0] * kinds for _ in range(kinds)]
    for (a, b), one in zip(combinations(range(kinds), 2), ratios):
        table[b][a] = numbers.ratio()
        table[a][b] = table[b][a] * one
    return table


def level_ratios(kinds):
    """Ratios whose products round three kinds are 1, not all of them 1."""
    heights = [Ratio(1), Ratio(2), Ratio(2, 3), Ratio(5)][:kinds]
    return [heights[b].over(heights[a]) for a, b in combinations(range(kinds), 2)]


def round_ratios(crowd):
    """Ratios of three kinds for which each kind's product by the crowd's counts is 1."""
    x, y, z = crowd.counts
    return [Ratio(2).to_power(z), Ratio(2).to_power(-y), Ratio(2).to_power(x)]


def points_one_way(arrows):
    """Each place of a ring has one arrow in and one out; on a row none has two of either."""
    if arrows.web.along is None:
        return False
    ends = [v for _, v, _ in arrows.arrows]
    begins = [u for u, _, _ in arrows.arrows]
    return len(set(ends)) == len(ends) and len(set(begins)) == len(begins)


def has_levels(arrows):
    """Whether some row of integers, 0 at place 0, rises by 1 along each arrow."""
    size = arrows.web.size
    return any(
        all(((0,) + row)[v] == ((0,) + row)[u] + 1 for u, v, _ in arrows.arrows)
        for row in product(range(1 - size, size), repeat=size - 1)
    )


def case_by_words(arrows, crowd):
    """The first case of [38], each of them told anew."""
    kinds = range(arrows.kinds)
    r = {
        (a, b): Fraction(1) if a == b else fraction(arrows.rates[a][b]) / fraction(arrows.rates[b][a])
        for a in kinds for b in kinds
    }
    if set(r.values()) == {1}:
        return 1
    if all(r[a, b] * r[b, c] * r[c, a] == 1 for a, b, c in product(kinds, repeat=3)) and has_levels(arrows):
        return 2
    if not points_one_way(arrows):
        return 0
    if is_tree(arrows.web):
        return 3
    products = [Fraction(1)] * arrows.kinds
    for a, c in product(kinds, repeat=2):
        products[a] *= r[a, c] ** crowd.counts[c]
    return 4 if set(products) == {1} else 0


def some_rates(crowd):
    """Tables of rates for which each case can hold."""
    kinds = crowd.kinds
    many = kinds * (kinds - 1) // 2
    tables = [rates_by([1] * many, kinds), rates_by(level_ratios(kinds), kinds), rates_by(range(1, many + 1), kinds)]
    tables.append(rates_by([2] + [1] * (many - 1), kinds))
    if kinds == 3:
        tables.append(rates_by(round_ratios(crowd), 3))
    return tables


class TestMaking(unittest.TestCase):

    def test_attributes(self):
        told_arrows = Arrows(Web.row(3), [[1, 0, 2], (1, 2, Ratio(3, 4))], [[0, 2], (HALF, 0)])
        self.assertEqual((told_arrows.web, told_arrows.kinds), (Web.row(3), 2))
        self.assertEqual(told_arrows.arrows, ((1, 0, 2), (1, 2, Ratio(3, 4))))
        self.assertTrue(all(isinstance(arrow, tuple) and isinstance(arrow[2], Ratio) for arrow in told_arrows.arrows))
        self.assertEqual(told_arrows.rates, ((0, 2), (HALF, 0)))
        self.assertTrue(all_ratios(told_arrows.rates))
        for kinds in range(2, 7):
            rates = [[0 if a == b else 1 for b in range(kinds)] for a in range(kinds)]
            self.assertEqual(Arrows(Web.row(3), [(0, 1, 1), (1, 2, 1)], rates).kinds, kinds)

    def test_wrong_arrows(self):
        good = (0, 1, 1)
        for arrows, place in [
            (None, -1), ("ab", -1), ([good], -1), ([good, (1, 2, 1), (0, 2, 1)], -1), ([good, None], 1), ([good, 5], 1),
            ([good, (1, 2)], 1), ([good, (1, 2, 1, 1)], 1), ([good, (0, 2, 1)], 1), ([(1, 2, 1), good], 0),
            ([good, (1, 2, 0)], 1), ([good, (1, 2, -1)], 1), ([good, (2, 1, Ratio(-1, 2))], 1),
            ([good, (1, 2, "1")], 1),
            ([good, (1, 2, 1.0)], 1), ([good, (Ratio(1), 2, 1)], 1), ([good, (1, Ratio(2), 1)], 1), ([(0, 1, 0), 3], 0),
            ([good, (1, 1, 1)], 1), ([good, ("1", 2, 1)], 1), ([good, (2, 3, 1)], 1), ([good, "121"], 1),
        ]:
            self.assertEqual(told(Arrows, Web.row(3), arrows, None), ("BadTable", place), arrows)
            self.assertEqual(told(Arrows, Web.row(3), arrows, [[0, 1], [1, 0]]), ("BadTable", place), arrows)

    def test_wrong_rates(self):
        seven = [[0 if a == b else 1 for b in range(7)] for a in range(7)]
        for rates in [
            None, "ab", [], [[0]], seven, [[0, 1]], [[0, 1], [1]], [[0, 1], [1, 0, 1]], [[0, 1], None], [[0, 1], "10"],
            [[0, 0], [1, 0]], [[0, 1], [0, 0]], [[0, 1], [-1, 0]], [[1, 1], [1, 0]], [[0, 1], [1, 1]],
            [[0, "1"], [1, 0]], [[0, 1], [1.0, 0]], [[0, Ratio(-1, 2)], [1, 0]], [[0, 1, 1], [1, 0, 1], [1, 0, 0]],
        ]:
            self.assertEqual(told(Arrows, Web.row(3), [(0, 1, 1), (1, 2, 1)], rates), ("BadNumber", "rates"), rates)

    def test_what_is_passed_is_not_kept(self):
        arrows, rates = [[0, 1, 1], [1, 2, 1]], [[0, 2], [1, 0]]
        told_arrows = Arrows(Web.row(3), arrows, rates)
        arrows[0][0], rates[0][1] = 9, 9
        arrows.pop()
        self.assertEqual(told_arrows.arrows, ((0, 1, 1), (1, 2, 1)))
        self.assertEqual(told_arrows.rates, ((0, 2), (1, 0)))


class TestReading(unittest.TestCase):

    def test_run(self):
        for web in some_webs(4):
            for kinds in (2, 3):
                for turned in all_turns(web)[::3]:
                    told_arrows = arrows_on(web, turned, rates_by(range(2, 9), kinds))
                    run = told_arrows.as_run()
                    self.assertEqual((run.web, run.kinds, run.filled), (web, kinds, True))
                    for u, v, speed in told_arrows.arrows:
                        for a, b in permutations(range(kinds), 2):
                            self.assertEqual(run.rate(u, v, a, b), speed * told_arrows.rates[a][b])
        run = Arrows(Web.row(3), ((1, 0, 2), (1, 2, 3)), ((0, 5), (7, 0))).as_run()
        self.assertEqual(run, Run(Web.row(3), 2, [[[0, 14], [10, 0]], [[0, 15], [21, 0]]]))

    def test_ratio(self):
        told_arrows = arrows_on(Web.row(3), (0, 0), [[0, 2, 3], [5, 0, Ratio(1, 4)], [6, 7, 0]])
        for a, b, text in [(0, 1, "2/5"), (1, 0, "5/2"), (0, 2, "1/2"), (1, 2, "1/28"), (2, 2, "1"), (0, 0, "1")]:
            self.assertEqual(told_arrows.ratio(a, b).told(), text)
        for a, b, wrong in [(3, 9, 3), (0, 3, 3), (-1, 0, -1), (2, "0", "0"), (Ratio(1), 0, Ratio(1))]:
            self.assertEqual(told(told_arrows.ratio, a, b), ("BadKind", wrong))

    def test_levels(self):
        seen = set()
        for size in (3, 4):
            for web in some_webs(size):
                for turned in all_turns(web):
                    told_arrows = arrows_on(web, turned, [[0, 1], [1, 0]])
                    levels = told_arrows.levels()
                    seen.add((is_tree(web), levels is None))
                    self.assertIs(levels is not None, has_levels(told_arrows))
                    if levels is not None:
                        self.assertIsInstance(levels, tuple)
                        self.assertEqual((levels[0], len(levels)), (0, size))
                        self.assertTrue(all(levels[v] == levels[u] + 1 for u, v, _ in told_arrows.arrows))
        self.assertEqual(seen, {(True, False), (False, False), (False, True)})
        # A tie between two places far from place 0 may come early.
        far = Arrows(Web(4, [(0, 3), (1, 2), (1, 3)]), ((0, 3, 1), (2, 1, 1), (1, 3, 1)), [[0, 1], [1, 0]])
        self.assertEqual(far.levels(), (0, 0, -1, 1))
        far = Arrows(Web(5, [(0, 4), (1, 2), (2, 3), (3, 4)]), ((4, 0, 1), (1, 2, 1), (3, 2, 1), (3, 4, 1)), RATES)
        self.assertEqual(far.levels(), (0, -2, -1, -2, -1))
        self.assertEqual(arrows_on(Web.row(8), [True] * 7, [[0, 1], [1, 0]]).levels(), (0, -1, -2, -3, -4, -5, -6, -7))

    def test_one_way(self):
        for size in (3, 4):
            for web in some_webs(size):
                found = 0
                for turned in all_turns(web):
                    told_arrows = arrows_on(web, turned, [[0, 1], [1, 0]])
                    self.assertIs(told_arrows.is_one_way(), points_one_way(told_arrows))
                    found += told_arrows.is_one_way()
                self.assertEqual(found, 0 if web.along is None else 2)
        self.assertIs(Arrows(Web.ring(3), ((0, 1, 1), (2, 0, 1), (1, 2, 1)), RATES).is_one_way(), True)
        self.assertIs(Arrows(Web.ring(3), ((0, 1, 1), (0, 2, 1), (1, 2, 1)), RATES).is_one_way(), False)


class TestCases(unittest.TestCase):

    def test_each_case(self):
        seen = set()
        for size, crowds in [(3, small_crowds(3)), (4, [Crowd((2, 2)), Crowd((3, 1)), Crowd((2, 1, 1))])]:
            for web in some_webs(size):
                for crowd in crowds:
                    for rates in some_rates(crowd):
                        for turned in all_turns(web)[::1 if len(web) < 5 else 5]:
                            told_arrows = arrows_on(web, turned, rates)
                            seen.add(self.check_case(told_arrows, crowd))
        self.assertEqual(seen, {0, 1, 2, 3, 4})

    def check_case(self, told_arrows, crowd):
        case = arrow_case(told_arrows, crowd)
        self.assertEqual(case, case_by_words(told_arrows, crowd))
        run = told_arrows.as_run()
        self.assertIs(case > 0, stands(run, crowd))
        shares = arrow_shares(told_arrows, crowd)
        if case == 0:
            self.assertIsNone(shares)
        else:
            self.assertEqual(shares, local_shares(table_of_run(run), crowd))
            self.assertIs(is_standing(run, shares), True)
        faster = [(u, v, speed * (u + 2)) for u, v, speed in told_arrows.arrows]
        quick = Arrows(told_arrows.web, faster, told_arrows.rates)
        self.assertEqual((arrow_case(quick, crowd), arrow_shares(quick, crowd)), (case, shares))
        return case

    def test_the_first_case_is_told(self):
        crowd = Crowd((1, 1, 1))
        for web in (Web.row(3), renamed(Web.row(3), (1, 0, 2))):
            for turned in all_turns(web):
                self.assertEqual(arrow_case(arrows_on(web, turned, rates_by([1, 1, 1], 3)), crowd), 1)
                self.assertEqual(arrow_case(arrows_on(web, turned, rates_by(level_ratios(3), 3)), crowd), 2)
        self.assertEqual(arrow_case(Arrows(Web.row(3), ((0, 1, 1), (1, 2, 1)), RATES), crowd), 3)
        self.assertEqual(arrow_case(Arrows(Web.row(3), ((1, 0, 1), (2, 1, 1)), RATES), crowd), 3)
        self.assertEqual(arrow_case(Arrows(Web.row(3), ((1, 0, 1), (1, 2, 1)), RATES), crowd), 0)
        two = rates_by([2], 2)
        for turned in all_turns(Web.ring(4)):
            case = arrow_case(arrows_on(Web.ring(4), turned, two), Crowd((2, 2)))
            # Up along two ties and down along two: only then there are levels.
            forward = [turned[0], not turned[1], turned[2], turned[3]]
            self.assertEqual(case, 2 if sum(forward) == 2 else 0)

    def test_case_two_by_words(self):
        web = Web.star(4)
        told_arrows = Arrows(web, ((0, 1, 3), (2, 0, 1), (0, 3, 5)), rates_by(level_ratios(3), 3))
        self.assertEqual(told_arrows.levels(), (0, 1, -1, 1))
        crowd = Crowd((2, 1, 1))
        values = {}
        for word in words_of(crowd):
            value = Fraction(1)
            for kind, level in zip(word, told_arrows.levels()):
                value *= fraction(told_arrows.ratio(kind, 0)) ** level
            values[word] = value
        self.assertEqual(share_chances(arrow_shares(told_arrows, crowd)), chances_of(values))

    def test_case_four_from_each_place(self):
        crowd = Crowd((2, 1, 1))
        ring = renamed(Web.ring(4), (2, 0, 3, 1))
        for turned in all_turns(ring):
            told_arrows = arrows_on(ring, turned, rates_by(round_ratios(crowd), 3))
            if not points_one_way(told_arrows):
                self.assertEqual(arrow_case(told_arrows, crowd), 0)
                continue
            self.assertEqual(arrow_case(told_arrows, crowd), 4)
            after = {u: v for u, v, _ in told_arrows.arrows}
            for start in range(4):
                line = [start]
                while len(line) < 4:
                    line.append(after[line[-1]])
                values = {}
                for word in words_of(crowd):
                    value = Fraction(1)
                    for p, q in combinations(line, 2):
                        if word[p] > word[q]:
                            value *= fraction(told_arrows.ratio(word[q], word[p]))
                    values[word] = value
                self.assertEqual(share_chances(arrow_shares(told_arrows, crowd)), chances_of(values))

    def test_kind_round(self):
        for web in some_webs(4):
            told_arrows = arrows_on(web, [False] * len(web), rates_by((2, 3, HALF), 3))
            for crowd, expected in [(Crowd((2, 1, 1)), ("6", "1/8", "2/9")), (Crowd((1, 2, 1)), ("12", "1/4", "4/3"))]:
                for a in range(3):
                    self.assertEqual(kind_round(told_arrows, crowd, a).told(), expected[a])
            self.assertEqual(told(kind_round, told_arrows, Crowd((2, 2)), 9), ("Unfit",))
            self.assertEqual(told(kind_round, told_arrows, Crowd((1, 1, 1)), 9), ("Unfit",))
            for wrong in (3, -1, "0", None):
                self.assertEqual(told(kind_round, told_arrows, Crowd((2, 1, 1)), wrong), ("BadKind", wrong))

    def test_many_words(self):
        even = [[0 if a == b else 1 for b in range(6)] for a in range(6)]
        rising = [[0 if a == b else 1 + (a < b) for b in range(6)] for a in range(6)]
        for web, turned, rates, case in [
            (Web.row(8), [False] * 7, even, 1), (Web.row(8), [False] * 7, rising, 3),
            (Web.ring(8), [False] * 8, rising, 0), (Web.full(8), [False] * 28, rising, 0),
        ]:
            told_arrows = arrows_on(web, turned, rates)
            self.assertEqual(arrow_case(told_arrows, BIG_CROWD), case)
            self.assertIs(case > 0, stands(told_arrows.as_run(), BIG_CROWD))
            self.assertEqual(told(arrow_shares, told_arrows, BIG_CROWD), ("TooMany", 10080))

    def test_unfit(self):
        told_arrows = Arrows(Web.row(3), ((0, 1, 1), (1, 2, 1)), RATES)
        for crowd in (Crowd((2, 1)), Crowd((2, 1, 1)), Crowd((3,)), BIG_CROWD):
            for call in (arrow_case, arrow_shares):
                self.assertEqual(told(call, told_arrows, crowd), ("Unfit",))

    def test_examples(self):
        told_arrows = Arrows(Web.row(3), ((0, 1, 1), (1, 2, 1)), RATES)
        crowd = Crowd((1, 1, 1))
        found = [arrow_case(told_arrows, crowd), told_arrows.levels(), list(arrow_shares(told_arrows, crowd))]
        self.assertEqual(found, [3, (0, 1, 2), [1, 2, 2, 4, 4, 8]])
        ring = Arrows(Web.ring(3), ((0, 1, 1), (2, 0, 1), (1, 2, 1)), RATES)
        walk = ((0, 1, 2), (1, 0, 2), (1, 2, 0), (0, 2, 1), (0, 1, 2))
        self.assertEqual(walk, round_walk(Web.ring(3), (0, 1, 2), (0, 1, 2)))
        forward, back = walk_rates(ring.as_run(), walk)
        found = [arrow_case(ring, crowd), kind_round(ring, crowd, 0).told(), forward.told(), back.told()]
        self.assertEqual(found, [0, "4", "8", "2"])

    def test_shares_of_even_rates(self):
        told_arrows = arrows_on(Web.full(4), [True] * 6, rates_by([1], 2))
        self.assertEqual(arrow_shares(told_arrows, Crowd((2, 2))), Shares.even(Crowd((2, 2))))
        self.assertEqual(standing_shares(told_arrows.as_run(), Crowd((2, 2))), Shares.even(Crowd((2, 2))))
