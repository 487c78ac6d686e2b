"""[31] to [36]: lasting and standing shares, runs that stand."""

import unittest
from fractions import Fraction
from itertools import combinations, product

from steprows.crowds import Crowd, exchanged, words_of
from steprows.forms import form_of
from steprows.ratios import Ratio
from steprows.rounds import is_kept
from steprows.runs import Run
from steprows.shapes import is_tree, shape
from steprows.shares import Shares, local_shares
from steprows.standing import (
    excess, is_lasting, is_standing, paced, quickened, speeds_of, standing_run, standing_shares, stands, table_of_run,
    ties_off, uneven_walk, walk_rates,
)
from steprows.tables import RatioTable, product_of, table_of
from steprows.walks import is_walk
from steprows.webs import Web
from tests.common import (
    BIG_CROWD, Numbers, all_ratios, all_three_walks, changed, fraction, kept_table, share_chances, small_crowds,
    solved_shares, some_rows, some_run, some_standing_run, some_table, some_webs, spread_chances, told,
)


def some_weights(crowd, seed=1):
    numbers = Numbers(seed)
    return Shares(crowd, [numbers.below(5) for _ in range(crowd.many - 1)] + [2])


def tie_flows(run, shares, tie):
    """What goes out of each word over the tie and what comes into it there."""
    chances = dict(zip(words_of(shares.crowd), share_chances(shares)))
    u, v = tie
    for word, chance in chances.items():
        if word[u] != word[v]:
            out = chance * fraction(run.rate(u, v, word[u], word[v]))
            into = chances[exchanged(word, u, v)] * fraction(run.rate(u, v, word[v], word[u]))
            yield word, out, into


def excesses(run, shares):
    found = {word: Fraction(0) for word in words_of(shares.crowd)}
    for tie in run.web.ties:
        for word, out, into in tie_flows(run, shares, tie):
            found[word] += into - out
    return found


def off_ties(run, shares):
    return tuple(tie for tie in run.web.ties if any(out != into for _, out, into in tie_flows(run, shares, tie)))


class TestExcess(unittest.TestCase):

    def test_excess_of_any_run(self):
        for web in some_webs(4):
            for crowd in (Crowd((2, 1, 1)), Crowd((3, 1))):
                for zeros in (False, True):
                    run = some_run(web, crowd.kinds, seed=len(web), zeros=zeros)
                    shares = some_weights(crowd)
                    expected = excesses(run, shares)
                    found = {word: excess(run, shares, list(word)) for word in words_of(crowd)}
                    self.assertTrue(all_ratios(tuple(found.values())))
                    self.assertEqual({word: fraction(one) for word, one in found.items()}, expected)
                    self.assertEqual(sum(expected.values()), 0)
                    self.assertEqual(ties_off(run, shares), off_ties(run, shares))
                    self.assertIs(is_lasting(run, shares), not any(expected.values()))
                    self.assertIs(is_standing(run, shares), not off_ties(run, shares))

    def test_by_hand(self):
        run = Run(Web.row(3), 2, [[[0, 2], [3, 0]], [[0, 5], [7, 0]]])
        shares = Shares(Crowd((2, 1)), [1, 2, 4])
        # Into 001 from 010 over the second tie at 7, and out of it at 5.
        self.assertEqual(excess(run, shares, (0, 0, 1)).told(), "9/7")
        self.assertEqual(excess(run, shares, (1, 0, 0)).told(), "-8/7")
        self.assertEqual(excess(run, shares, (0, 1, 0)).told(), "-1/7")

    def test_runs_that_are_not_full(self):
        web, crowd = Web.row(3), Crowd((2, 1))
        still = Run(web, 2, [[[0, 0], [0, 0]]] * 2)
        one_way = Run(web, 2, [[[0, 0], [1, 0]]] * 2)
        for shares in (Shares.even(crowd), Shares(crowd, [0, 1, 0]), some_weights(crowd)):
            self.assertEqual((is_lasting(still, shares), is_standing(still, shares)), (True, True))
            self.assertEqual(ties_off(still, shares), ())
        self.assertIs(is_standing(one_way, Shares(crowd, [1, 0, 0])), True)
        self.assertEqual(ties_off(one_way, Shares(crowd, [0, 1, 0])), ((1, 2),))
        self.assertEqual(ties_off(one_way, Shares(crowd, [0, 0, 1])), ((0, 1),))

    def test_lasting_but_not_standing(self):
        turning = Run(Web.ring(3), 2, [[[0, 2], [1, 0]], [[0, 1], [2, 0]], [[0, 2], [1, 0]]])
        shares = Shares.even(Crowd((2, 1)))
        self.assertIs(is_lasting(turning, shares), True)
        self.assertIs(is_standing(turning, shares), False)
        self.assertEqual(ties_off(turning, shares), ((0, 1), (0, 2), (1, 2)))

    def test_wrong_ones(self):
        run = Run.level(Web.row(3), 2)
        for crowd in (Crowd((2, 2)), Crowd((1, 1, 1)), Crowd((3,))):
            shares = Shares.even(crowd)
            for call in (is_lasting, is_standing, ties_off):
                self.assertEqual(told(call, run, shares), ("Unfit",))
            self.assertEqual(told(excess, run, shares, None), ("Unfit",))
        shares = Shares.even(Crowd((2, 1)))
        for word, place in [(None, -1), ((0, 1), -1), ((0, 2, "x"), 1), ((0, 1, 1), -2)]:
            self.assertEqual(told(excess, run, shares, word), ("BadWord", place))


class TestStanding(unittest.TestCase):

    def test_ratios_of_a_run(self):
        for web in some_webs(4):
            run = some_run(web, 3)
            table = table_of_run(run)
            self.assertEqual((table.web, table.kinds), (web, 3))
            for (u, v), a, b in product(web.ties, range(3), range(3)):
                expected = Ratio(1) if a == b else run.rate(u, v, a, b).over(run.rate(u, v, b, a))
                self.assertEqual(table.at(u, v, a, b), expected)
        self.assertIs(table_of_run(Run.level(Web.ring(5), 4)).flat, True)
        part = Run(Web.row(3), 2, [[[0, 1], [1, 0]], [[0, 0], [1, 0]]])
        self.assertEqual(told(table_of_run, part), ("NotFull",))

    def test_standing_runs(self):
        for size in (3, 4):
            for web in some_webs(size):
                for crowd in small_crowds(size):
                    run = some_standing_run(web, crowd)
                    table = kept_table(web, crowd)
                    self.assertEqual(table_of_run(run), table)
                    self.assertIs(stands(run, crowd), True)
                    shares = standing_shares(run, crowd)
                    self.assertEqual(shares, local_shares(table, crowd))
                    self.assertEqual((is_standing(run, shares), is_lasting(run, shares)), (True, True))
                    self.assertEqual(ties_off(run, shares), ())
                    self.assertIsNone(uneven_walk(run, crowd))

    def test_other_runs(self):
        seen = set()
        for web in some_webs(4):
            for crowd in small_crowds(4):
                runs = [some_run(web, crowd.kinds), standing_run(
                    changed(kept_table(web, crowd), 0, 0, 1), some_rows(web, crowd.kinds))]
                for run in runs:
                    kept = spread_chances(table_of_run(run), crowd) is not None
                    seen.add(kept)
                    self.assertIs(stands(run, crowd), kept)
                    self.assertIs(standing_shares(run, crowd) is not None, kept)
                    walk = uneven_walk(run, crowd)
                    self.assertIs(walk is None, kept)
                    if walk is not None:
                        self.check_walk(run, crowd, walk)
        self.assertEqual(seen, {True, False})

    def check_walk(self, run, crowd, walk):
        self.assertIn(walk, all_three_walks(run.web, crowd))
        self.assertEqual(walk[0], walk[-1])
        forward, back = walk_rates(run, walk)
        self.assertNotEqual(forward, back)
        self.assertEqual(forward.over(back), product_of(table_of_run(run), walk))

    def test_the_one_lasting_shares(self):
        for web in some_webs(4):
            for crowd in (Crowd((2, 1, 1)), Crowd((2, 2)), Crowd((1, 3))):
                for run in (some_run(web, crowd.kinds, seed=3), some_standing_run(web, crowd)):
                    shares = solved_shares(run, crowd)
                    self.assertGreater(min(shares.weights), 0)
                    self.assertIs(is_lasting(run, shares), True)
                    # The run stands just where no tie is off for its lasting shares.
                    self.assertIs(is_standing(run, shares), stands(run, crowd))
                    self.assertIs(ties_off(run, shares) == (), stands(run, crowd))
                    if stands(run, crowd):
                        self.assertEqual(standing_shares(run, crowd), shares)
                    other = Shares(crowd, [weight + (at == 0) for at, weight in enumerate(shares)])
                    self.assertIs(is_lasting(run, other), False)

    def test_example(self):
        table = table_of(Web.ring(3), 2, ((2,), (6,), (3,)))
        run = standing_run(table, ((2,), (6,), (3,)))
        crowd = Crowd((2, 1))
        found = [list(standing_shares(run, crowd)), ties_off(run, Shares.even(crowd))]
        self.assertEqual(found, [[1, 3, 6], ((0, 1), (0, 2), (1, 2))])

    def test_many_words(self):
        for web in (Web.row(8), Web.ring(8), Web.full(8)):
            level = Run.level(web, 6)
            self.assertIs(stands(level, BIG_CROWD), True)
            self.assertIsNone(uneven_walk(level, BIG_CROWD))
            self.assertEqual(told(standing_shares, level, BIG_CROWD), ("TooMany", 10080))
            run = some_run(web, 6)
            self.assertIs(stands(run, BIG_CROWD), False)
            self.assertEqual(told(standing_shares, run, BIG_CROWD), ("TooMany", 10080))
            walk = uneven_walk(run, BIG_CROWD)
            self.assertEqual((is_walk(web, walk), walk[0], sorted(walk[0])), (True, walk[-1], [0, 0, 1, 1, 2, 3, 4, 5]))
            forward, back = walk_rates(run, walk)
            self.assertNotEqual(forward, back)

    def test_wrong_ones(self):
        part = Run(Web.row(3), 2, [[[0, 1], [1, 0]], [[0, 1], [0, 0]]])
        for call in (stands, standing_shares, uneven_walk):
            self.assertEqual(told(call, part, Crowd((2, 2))), ("Unfit",))
            self.assertEqual(told(call, part, Crowd((1, 1, 1))), ("Unfit",))
            self.assertEqual(told(call, part, Crowd((2, 1))), ("NotFull",))
        self.assertEqual(told(standing_shares, Run.level(Web.row(8), 2), BIG_CROWD), ("Unfit",))
        part = some_run(Web.row(8), 6, zeros=True)
        self.assertFalse(part.filled)
        self.assertEqual(told(standing_shares, part, BIG_CROWD), ("NotFull",))

    def test_two_kinds(self):
        for size in (3, 4):
            for web in some_webs(size):
                for crowd in small_crowds(size, (2,)):
                    answers = {stands(some_run(web, 2, seed=seed), crowd) for seed in range(5)}
                    self.assertEqual(answers, {True} if is_tree(web) else {False})

    def test_numbers_of_places_and_kinds(self):
        for web in some_webs(4):
            for crowd in small_crowds(4):
                if shape(web) != "threefold" and crowd.kinds > 2:
                    continue
                run = some_standing_run(web, crowd)
                spots = form_of(table_of_run(run), crowd).spots
                for (u, v), a, b in product(web.ties, range(crowd.kinds), range(crowd.kinds)):
                    there = run.rate(u, v, a, b) * spots[u][a] * spots[v][b]
                    self.assertEqual(there, run.rate(u, v, b, a) * spots[u][b] * spots[v][a])


class TestWalkRates(unittest.TestCase):

    def test_products(self):
        run = Run(Web.row(3), 3, [[[0, 2, 3], [5, 0, 7], [11, 13, 0]], [[0, 17, 19], [0, 0, 23], [29, 31, 0]]])
        for walk, expected in [
            ([[0, 1, 2]], ("1", "1")), (((1, 1, 1),), ("1", "1")), (((0, 1, 2), (1, 0, 2)), ("2", "5")),
            ([(0, 1, 2), [0, 2, 1], (2, 0, 1)], (str(23 * 3), str(31 * 11))), (((2, 0, 1), (2, 1, 0)), ("17", "0")),
            (((2, 1, 0), (2, 0, 1), (2, 1, 0)), ("0", "0")),
        ]:
            found = walk_rates(run, walk)
            self.assertIsInstance(found, tuple)
            self.assertEqual(tuple(one.told() for one in found), expected)

    def test_no_walks(self):
        run = Run.level(Web.row(3), 3)
        for words in [None, (), (0, 1, 2), [(0, 1)], [(0, 1, 3)], [(0, 1, 2), (2, 1, 0)], [(0, 1, 2), (0, 1, 2)]]:
            self.assertEqual(told(walk_rates, run, words), ("BadWord", -1), words)


class TestQuickened(unittest.TestCase):

    def test_rates(self):
        for web in some_webs(4):
            run = some_run(web, 3, zeros=True)
            for tie in web.ties:
                for number in (3, Ratio(2, 5)):
                    quick = quickened(run, tie[1], tie[0], number)
                    for (u, v), a, b in product(web.ties, range(3), range(3)):
                        factor = number if (u, v) == tie else 1
                        self.assertEqual(quick.rate(u, v, a, b), run.rate(u, v, a, b) * factor)
        run = some_run(Web.row(3), 2)
        self.assertEqual(quickened(run, 0, 1), quickened(run, 0, 1, number=2))
        self.assertEqual(run, some_run(Web.row(3), 2))

    def test_lasting_just_where_the_tie_is_not_off(self):
        crowd = Crowd((2, 1, 1))
        for web in some_webs(4):
            for run in (some_run(web, 3), some_standing_run(web, crowd)):
                shares = solved_shares(run, crowd)
                for tie in web.ties:
                    for number in (2, Ratio(1, 3)):
                        quick = quickened(run, *tie, number)
                        self.assertIs(is_lasting(quick, shares), tie not in ties_off(run, shares))

    def test_wrong_ones(self):
        run = Run.level(Web.row(4), 2)
        self.assertEqual(told(quickened, run, 4, 9, 0), ("BadPlace", 4))
        self.assertEqual(told(quickened, run, 0, 9, 0), ("BadPlace", 9))
        self.assertEqual(told(quickened, run, 2, 2, 0), ("BadPlace", 2))
        self.assertEqual(told(quickened, run, 2, 0, 0), ("NoTie", 2, 0))
        for number in (0, -1, Ratio(-1, 2), Ratio(0), "2", None, 1.5):
            self.assertEqual(told(quickened, run, 1, 0, number), ("BadNumber", "number"))


class TestSpeeds(unittest.TestCase):

    def test_standing_run(self):
        for web in some_webs(4):
            for kinds in (2, 3):
                table, speeds = some_table(web, kinds), some_rows(web, kinds)
                run = standing_run(table, speeds)
                self.assertEqual((run.web, run.kinds, run.filled), (web, kinds, True))
                self.assertEqual(table_of_run(run), table)
                for number, (u, v) in enumerate(web.ties):
                    for at, (a, b) in enumerate(combinations(range(kinds), 2)):
                        self.assertEqual(run.rate(u, v, a, b), speeds[number][at])
                        self.assertEqual(run.rate(u, v, b, a), speeds[number][at].over(table.at(u, v, a, b)))
                found = speeds_of(run, table)
                self.assertEqual(found, tuple(tuple(row) for row in speeds))
                self.assertTrue(all_ratios(found))
                self.assertIsNone(speeds_of(run, changed(table, len(web) - 1, 0, 1)))

    def test_it_stands_for_each_crowd_that_keeps_the_table(self):
        for web in some_webs(4):
            for one in small_crowds(4, (3,)):
                table = kept_table(web, one)
                run = standing_run(table, some_rows(web, 3))
                for crowd in small_crowds(4, (3,)):
                    self.assertIs(stands(run, crowd), is_kept(table, crowd))

    def test_numbers_for_ratios(self):
        run = standing_run(table_of(Web.row(3), 2, [[2], [3]]), ([4], (1,)))
        self.assertEqual(run, Run(Web.row(3), 2, [[[0, 4], [2, 0]], [[0, 1], [Ratio(1, 3), 0]]]))

    def test_wrong_speeds(self):
        table, run = RatioTable.even(Web.row(3), 3), Run.level(Web.row(3), 3)
        for speeds, place in [
            (None, -1), ("ab", -1), ([[1, 1, 1]], -1), ([[1, 1, 1]] * 3, -1), ([[1]] * 3, -1), ([[1, 1, 1], None], 1),
            ([[1, 1], [1, 1, 1]], 0), ([[1, 1, 1], [1, 1, 1, 1]], 1), ([[1, 0, 1], [1]], 0),
            ([[1, 1, 1], [1, 1, -2]], 1), ([[1, 1, 1], ["1", 1, 1]], 1), ([[1, 1, 1], [1, Ratio(-1, 2), 1]], 1),
        ]:
            self.assertEqual(told(standing_run, table, speeds), ("BadTable", place), speeds)
            self.assertEqual(told(paced, run, speeds), ("BadTable", place), speeds)

    def test_wrong_ones_for_reading(self):
        part = Run(Web.row(3), 2, [[[0, 1], [0, 0]], [[0, 1], [1, 0]]])
        self.assertEqual(told(speeds_of, part, RatioTable.even(Web.star(3), 2)), ("Unfit",))
        self.assertEqual(told(speeds_of, part, RatioTable.even(Web.row(3), 3)), ("Unfit",))
        self.assertEqual(told(speeds_of, part, RatioTable.even(Web.row(3), 2)), ("NotFull",))


class TestPaced(unittest.TestCase):

    def test_rates(self):
        for web in some_webs(4):
            run = some_run(web, 3, zeros=True)
            factors = some_rows(web, 3, seed=8)
            found = paced(run, [tuple(row) for row in factors])
            for number, (u, v) in enumerate(web.ties):
                for at, (a, b) in enumerate(combinations(range(3), 2)):
                    for there, back in ((a, b), (b, a)):
                        expected = run.rate(u, v, there, back) * factors[number][at]
                        self.assertEqual(found.rate(u, v, there, back), expected)
            self.assertEqual(run, some_run(web, 3, zeros=True))

    def test_standing_shares_stay_standing(self):
        for web in some_webs(4):
            for crowd in small_crowds(4):
                run = some_standing_run(web, crowd)
                shares = standing_shares(run, crowd)
                quick = paced(run, some_rows(web, crowd.kinds, seed=8))
                self.assertIs(is_standing(quick, shares), True)
                self.assertEqual(standing_shares(quick, crowd), shares)
        one_way = Run(Web.row(3), 2, [[[0, 0], [1, 0]]] * 2)
        self.assertIs(is_standing(paced(one_way, [[3], [4]]), Shares(Crowd((2, 1)), [1, 0, 0])), True)
