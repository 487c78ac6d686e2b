"""[106] to [108]: kinds joined."""

import unittest
from fractions import Fraction
from itertools import permutations, product

from steprows.arrows import Arrows, arrow_case
from steprows.backs import backwards
from steprows.crowds import Crowd, words_of
from steprows.cuts import two_rates
from steprows.evens import is_even
from steprows.flows import kind_flow, share_flow
from steprows.joins import joined_crowd, joined_run, joined_shares, joined_word, joining, joins
from steprows.lots import all_partings
from steprows.ratios import Ratio
from steprows.rounds import is_kept
from steprows.runs import Run
from steprows.shares import Shares, local_shares, table_in
from steprows.solving import lasting_shares
from steprows.standing import is_lasting, stands
from steprows.tables import RatioTable, table_of
from steprows.webs import Web
from tests.common import (
    BIG_CROWD, Numbers, renamed, share_chances, small_crowds, some_run, some_standing_run, some_webs, some_weights,
    told, word_chances,
)
from tests.test_lots import run_that_joins

WRONG_PARTINGS = [
    (None, -1), ("012", -1), ([], -1), ([[0, 1]], -1), ([[0, 3]], 0), ([[0], [1, 0]], 1), ([[0], 1, [1, 1]], 1),
    ([[0], [1], []], 2), ([[1, 1], [7]], 0),
]


def joined_by_hand(parting, word):
    lots = sorted(tuple(sorted(lot)) for lot in parting)
    return tuple(next(number for number, lot in enumerate(lots) if kind in lot) for kind in word)


def joins_by_words(run, crowd, parting):
    """What [106] says of the rates at all words."""
    for u, v in run.web:
        found = {}
        for word in words_of(crowd):
            y = joined_by_hand(parting, word)
            if y[u] != y[v]:
                rate = run.rate(u, v, word[u], word[v])
                if found.setdefault((y[u], y[v]), rate) != rate:
                    return False
    return True


class TestJoins(unittest.TestCase):

    def test_against_words(self):
        seen = set()
        for web in (Web.row(3), Web.star(4), Web.ring(4)):
            for kinds in (2, 3):
                crowd = Crowd([web.size + 1 - kinds] + [1] * (kinds - 1))
                for parting in all_partings(kinds):
                    for spoilt in (None, (len(web) - 1, 0, kinds - 1), (0, kinds - 1, 0)):
                        run = run_that_joins(web, kinds, parting, spoilt=spoilt)
                        expected = [one for one in all_partings(kinds) if joins_by_words(run, crowd, one)]
                        self.assertEqual(joining(run), expected)
                        for one in all_partings(kinds):
                            self.assertIs(joins(run, one), one in expected)
                            self.assertIs(joins(run, [list(lot[::-1]) for lot in one[::-1]]), one in expected)
                        self.assertIn(all_partings(kinds)[0], expected)
                        self.assertIn(all_partings(kinds)[-1], expected)
                        seen.add(parting in expected)
        self.assertEqual(seen, {True, False})

    def test_one_lot_that_does_not_join(self):
        run = run_that_joins(Web.row(3), 4, ((0, 1), (2, 3)), spoilt=(1, 3, 0))
        self.assertIs(joins(run, ((0, 1), (2, 3))), False)
        self.assertEqual(joining(run), [((0, 1, 2, 3),), ((0,), (1,), (2,), (3,))])
        run = run_that_joins(Web.row(3), 4, ((0, 1), (2, 3)), spoilt=(1, 3, 2))
        self.assertIs(joins(run, ((0, 1), (2, 3))), True)

    def test_wrong_ones(self):
        run = some_run(Web.row(4), 3)
        for parting, place in WRONG_PARTINGS:
            self.assertEqual(told(joins, run, parting), ("BadLot", place), parting)
            self.assertEqual(told(joined_run, run, parting), ("BadLot", place), parting)
            self.assertEqual(told(joined_crowd, Crowd((2, 1, 1)), parting), ("BadLot", place), parting)
            self.assertEqual(told(joined_shares, Shares.even(Crowd((2, 1, 1))), parting), ("BadLot", place), parting)
        self.assertEqual(told(joined_run, run, [[0, 1, 2]]), ("BadLot", -1))
        self.assertEqual(told(joined_run, run, [[0, 1], [2]]), ("NotJoined",))
        self.assertIsNone(told(joined_run, run, [[0], [1], [2]]))


class TestJoinedRun(unittest.TestCase):

    def test_rates(self):
        for web in some_webs(4):
            for parting in ([[0, 2], [1]], [[1, 2], [0]], [(2,), (0, 1)], [[2], [1], [0]]):
                lots = tuple(sorted(tuple(sorted(lot)) for lot in parting))
                run = run_that_joins(web, 3, lots)
                joined = joined_run(run, parting)
                self.assertIsInstance(joined, Run)
                self.assertEqual((joined.web, joined.kinds), (web, len(lots)))
                for (u, v), (a, b) in product(web, permutations(range(3), 2)):
                    y = joined_by_hand(parting, (a, b))
                    if y[0] != y[1]:
                        self.assertEqual(joined.rate(u, v, *y), run.rate(u, v, a, b))
        run = some_run(Web.ring(4), 3)
        self.assertEqual(joined_run(run, [[2], [0], [1]]), run)

    def test_runs_with_rates_of_zero(self):
        run = Run(Web.row(3), 3, [[[0, 0, 2], [5, 0, 2], [0, 0, 0]], [[0, 1, 1], [0, 0, 1], [0, 0, 0]]])
        self.assertEqual(joined_run(run, [[1, 0], [2]]), Run(Web.row(3), 2, [[[0, 2], [0, 0]], [[0, 1], [0, 0]]]))

    def test_crowds(self):
        crowd = Crowd((1, 2, 3, 1))
        for parting, counts in [
            ([[3, 0], [2, 1]], (2, 5)), ([[0, 1, 2, 3]], (7,)), ([[2], [0, 1], [3]], (3, 3, 1)),
            ([[3], [2], [1], [0]], (1, 2, 3, 1)),
        ]:
            self.assertEqual(joined_crowd(crowd, parting), Crowd(counts))
        self.assertEqual(joined_crowd(Crowd((2,)), [[0]]), Crowd((2,)))
        self.assertEqual(joined_crowd(BIG_CROWD, [[0, 5], [1, 2, 3, 4]]), Crowd((3, 5)))
        self.assertEqual(told(joined_crowd, Crowd((2,)), [[0], [1]]), ("BadLot", 1))


class TestJoinedWord(unittest.TestCase):

    def test_any_length_and_counts(self):
        for parting, word, expected in [
            ([[1, 2], [0]], (2, 0, 1), (1, 0, 1)), ([[1, 2], [0]], [], ()), ([[0]], [0] * 12, (0,) * 12),
            ([(5, 0), [1, 3], (2, 4)], (0, 1, 2, 3, 4, 5, 5), (0, 1, 2, 1, 2, 0, 0)), ([[1], [0]], (1,), (1,)),
        ]:
            self.assertEqual(joined_word(parting, word), expected)

    def test_wrong_ones_in_order(self):
        for parting, place in [
            (None, -1), ("01", -1), ({0: 1}, -1), ([], -1), ([[]], -1), ([0, 1], -1), (["01"], -1),
            ([[0, 1, 2], [3, 4, 5], [6]], -1), ([[0, 0, 0, 0], [0, 0, 0]], -1), ([[0], 1], 1), ([1, [0]], 0),
            ([[0], []], 1), ([[0], [2]], 1), ([[0], [0]], 1), ([[1]], 0), ([[0, 1], "2"], 1), ([[0, 2], [3]], 1), ([[3], [0, 2]], 0),
        ]:
            self.assertEqual(told(joined_word, parting, None), ("BadLot", place), parting)
        for word, place in [
            (None, -1), ("01", -1), ((0, 3, 9), 1), ((-1,), 0), ((0, 1, 2, None), 3), ([0, Ratio(1)], 1), ({0: 1}, -1),
        ]:
            self.assertEqual(told(joined_word, [[2, 1], [0]], word), ("BadWord", place), word)


class TestJoinedShares(unittest.TestCase):

    def test_against_all_words(self):
        for crowd in small_crowds(4, (1, 2, 3, 4)) + [Crowd((2, 2, 1)), Crowd((3, 2))]:
            shares = Shares(crowd, some_weights(crowd))
            for parting in all_partings(crowd.kinds):
                joined = joined_shares(shares, parting)
                self.assertIsInstance(joined, Shares)
                self.assertEqual(joined.crowd, joined_crowd(crowd, parting))
                sums = {}
                for word, chance in word_chances(shares).items():
                    y = joined_by_hand(parting, word)
                    sums[y] = sums.get(y, Fraction(0)) + chance
                self.assertEqual(share_chances(joined), [sums[y] for y in words_of(joined.crowd)])

    def test_lasting_shares_and_flows(self):
        for web in some_webs(3) + some_webs(4):
            for parting in (((0, 1), (2,)), ((0, 2), (1,)), ((0,), (1, 2)), ((0,), (1,), (2,))):
                crowd = Crowd((web.size - 2, 1, 1))
                run = run_that_joins(web, 3, parting)
                joined = joined_run(run, parting)
                shares = lasting_shares(run, crowd)
                less = joined_shares(shares, parting)
                self.assertTrue(is_lasting(joined, less))
                for number, lot in enumerate(parting):
                    for u, v in web:
                        flows = [share_flow(run, shares, u, v, a) for a in lot]
                        self.assertEqual(share_flow(joined, less, u, v, number), sum(flows[1:], flows[0]))

    def test_kind_flows(self):
        for web, crowd in ((Web.ring(4), Crowd((2, 1, 1))), (Web.star(8), Crowd((3, 3, 2)))):
            for parting in (((0, 1), (2,)), ((0, 2), (1,)), ((0,), (1, 2))):
                run = run_that_joins(web, 3, parting)
                joined, less = joined_run(run, parting), joined_crowd(crowd, parting)
                for number, lot in enumerate(parting):
                    flows = [kind_flow(run, crowd, a) for a in lot]
                    sums = tuple(sum(ones[1:], ones[0]) for ones in zip(*flows))
                    self.assertEqual(kind_flow(joined, less, number), sums)


class TestWhatJoinedRunsKeep(unittest.TestCase):

    def test_standing_and_even(self):
        seen = set()
        for web in some_webs(4):
            crowd = Crowd((2, 1, 1))
            for parting in (((0, 1), (2,)), ((0, 2), (1,)), ((0,), (1, 2))):
                runs = [run_that_joins(web, 3, parting), Run.level(web, 3), self.even_one(web, parting)]
                runs.append(self.standing_one(web, parting))
                runs.append(self.standing_one(web, parting) + Run.level(web, 3))
                for run in runs:
                    joined, less = joined_run(run, parting), joined_crowd(crowd, parting)
                    self.assertLessEqual(stands(run, crowd), stands(joined, less))
                    self.assertLessEqual(is_even(run, crowd), is_even(joined, less))
                    seen.add((stands(run, crowd), is_even(run, crowd)))
        self.assertEqual(seen, {(True, True), (True, False), (False, True), (False, False)})

    def standing_one(self, web, parting):
        """A standing run by spots that are the same for all kinds of a lot."""
        number = {kind: place for place, lot in enumerate(parting) for kind in lot}
        numbers = Numbers(2)
        spots = [numbers.ratios(2) for _ in range(web.size)]
        return Run(web, 3, [
            [
                [0 if a == b else spots[u][number[b]] * spots[v][number[a]] for b in range(3)] for a in range(3)
            ] for u, v in web
        ])

    def even_one(self, web, parting):
        """An even run that joins: on a ring the kinds of one lot run round."""
        if web.along is None or len(web) < web.size:
            return Run.level(web, 3)
        steps = list(zip(web.along, web.along[1:] + web.along[:1]))
        lot = parting[0]
        rates = []
        for tie in web:
            there, back = (2, 1) if tie in steps else (1, 2)
            rates.append([
                [
                    0 if a == b else 1 if (a in lot) == (b in lot) else there if a in lot else back
                    for b in range(3)
                ] for a in range(3)
            ])
        return Run(web, 3, rates)

    def test_backwards(self):
        seen = set()
        for web in (Web.ring(4), Web.row(4), renamed(Web.ring(4), (2, 0, 1, 3)), Web.star(4), Web.ring(3)):
            for parting in (((0, 1), (2,)), ((0, 2), (1,)), ((0,), (1, 2))):
                crowd = Crowd((web.size - 2, 1, 1))
                for run in (run_that_joins(web, 3, parting), self.even_one(web, parting), self.standing_one(web, parting)):
                    back = backwards(run, crowd)
                    seen.add(back is not None and joins(back, parting))
                    if back is not None and joins(back, parting):
                        joined, less = joined_run(run, parting), joined_crowd(crowd, parting)
                        self.assertEqual(backwards(joined, less), joined_run(back, parting))
        self.assertEqual(seen, {True, False})

    def test_arrows(self):
        seen = set()
        kinds, parting = 4, ((0, 1), (2,), (3,))
        numbers = Numbers(5)
        rising = [[1, 2, 2, 2], [1, 1, 2, 2], [1, 1, 1, 2], [1, 1, 1, 1]]
        closed = [[kind] * kinds for kind in (2, 2, 3, 5)]
        for web, crowd in (
            (Web.row(4), Crowd((1, 1, 1, 1))), (Web.ring(4), Crowd((1, 1, 1, 1))), (Web.star(4), Crowd((1, 1, 1, 1))),
            (Web.ring(5), Crowd((1, 1, 2, 1))),
        ):
            line = web.along or (1, 0, 2, 3)
            steps = list(zip(line, line[1:] + line[:1]))
            for table, flip in product((rising, closed, [[1] * kinds] * kinds), (False, True)):
                rates = [[0 if a == b else table[a][b] for b in range(kinds)] for a in range(kinds)]
                arrows = [
                    (u, v, numbers.ratio()) if ((u, v) in steps) ^ (flip and number == 0) else (v, u, numbers.ratio())
                    for number, (u, v) in enumerate(web)
                ]
                seen.add(self.check_arrows(Arrows(web, arrows, rates), crowd, parting))
        self.assertEqual({case for case, _ in seen}, {0, 1, 2, 3})

    def check_arrows(self, arrows, crowd, parting):
        run = arrows.as_run()
        self.assertTrue(joins(run, parting))
        firsts = [lot[0] for lot in parting]
        less = Arrows(arrows.web, arrows.arrows, [[arrows.rates[a][b] for b in firsts] for a in firsts])
        self.assertEqual(joined_run(run, parting), less.as_run())
        case, joined_case = arrow_case(arrows, crowd), arrow_case(less, joined_crowd(crowd, parting))
        if case > 0:
            self.assertTrue(0 < joined_case <= case)
        if case == 4:
            self.assertIn(joined_case, (1, 4))
        return case, joined_case

    def test_arrows_of_case_four(self):
        seen = set()
        for counts, pairs, parting in (
            ((1, 1, 2, 2), ((0, 2), (1, 2), (2, 3), (3, 0), (3, 1)), ((0, 1), (2,), (3,))),
            ((1, 1, 1, 1), ((0, 1), (1, 2), (2, 0)), ((0, 1, 2), (3,))),
        ):
            crowd, web = Crowd(counts), Web.ring(sum(counts))
            rates = [[0 if a == b else 2 if (a, b) in pairs else 1 for b in range(4)] for a in range(4)]
            arrows = Arrows(web, [(u, v, 1) if v - u == 1 else (v, u, 1) for u, v in web], rates)
            seen.add(self.check_arrows(arrows, crowd, parting))
        self.assertEqual(seen, {(4, 4), (4, 1)})


class TestLocalShares(unittest.TestCase):

    def test_tables_that_join(self):
        # [109]: the entries t(a,c) the same for all a of a lot.
        for web in some_webs(4):
            for crowd in (Crowd((2, 1, 1)), Crowd((1, 2, 1))):
                for lot, c in (((0, 1), 2), ((0, 2), 1), ((1, 2), 0)):
                    numbers = Numbers(3)
                    spots = [numbers.ratios(2) for _ in range(4)]
                    uppers = []
                    for u, v in web:
                        x = spots[u][0] * spots[v][1] * (spots[u][1] * spots[v][0]).inverse()
                        uppers.append([
                            Ratio(1) if {a, b} == set(lot) else x if b == c else x.inverse()
                            for a, b in ((0, 1), (0, 2), (1, 2))
                        ])
                    table = table_of(web, 3, uppers)
                    self.assertTrue(is_kept(table, crowd))
                    parting = [lot, (c,)]
                    shares = joined_shares(local_shares(table, crowd), parting)
                    self.check_table(web, table, shares, lot, c)

    def check_table(self, web, table, shares, lot, c):
        found = table_in(web, shares)
        self.assertIsInstance(found, RatioTable)
        first, second = (0, 1) if lot[0] < c else (1, 0)
        for u, v in web:
            self.assertEqual(found.at(u, v, first, second), table.at(u, v, lot[0], c))


class TestStandingOnes(unittest.TestCase):

    def test_the_parting_with_a_lot_for_each_kind(self):
        for web in some_webs(3):
            crowd = Crowd((1, 1, 1))
            run = some_standing_run(web, crowd)
            self.assertEqual(joined_run(run, [[0], [1], [2]]), run)
            self.assertEqual(joined_shares(lasting_shares(run, crowd), [[0], [1], [2]]), lasting_shares(run, crowd))

    def test_many_kinds(self):
        run = two_rates(Web.ring(8), 6, ahead=[3] * 8, behind=[1] * 8)
        joined = joined_run(run, [[0, 1, 2], [3], [5, 4]])
        self.assertEqual(joined, two_rates(Web.ring(8), 3, ahead=[3] * 8, behind=[1] * 8))
        self.assertEqual(len(joining(run)), 32)
