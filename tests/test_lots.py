"""[96]: lots, partings, and which lots are joinable."""

import unittest
from itertools import combinations, permutations, product

from steprows.crowds import Crowd
from steprows.cuts import two_rates
from steprows.lots import all_partings, check_lot, check_parting, is_joinable, joinable_lots
from steprows.ratios import Ratio
from steprows.runs import Run
from steprows.webs import Web
from tests.common import Numbers, some_run, some_webs, told

WRONG_KINDS = (0, 7, -1, None, "3", Ratio(3))


def partings_by_hand(kinds):
    """The partings of so many kinds, by every choice of a number for each kind."""
    found = {}
    for numbers in product(range(kinds), repeat=kinds):
        lots = tuple(sorted(tuple(a for a in range(kinds) if numbers[a] == lot) for lot in set(numbers)))
        told_by = tuple(next(place for place, lot in enumerate(lots) if a in lot) for a in range(kinds))
        found[told_by] = lots
    return [found[key] for key in sorted(found)]


def is_joinable_by_hand(run, lot):
    for u, v in run.web:
        for c in set(range(run.kinds)) - set(lot):
            for a, b in permutations(lot, 2):
                if run.rate(u, v, a, c) != run.rate(u, v, b, c) or run.rate(u, v, c, a) != run.rate(u, v, c, b):
                    return False
    return True


def run_that_joins(web, kinds, parting, seed=1, spoilt=None):
    """A run in which the lots of the parting are joinable; spoilt is a tie and two kinds with another rate."""
    numbers = Numbers(seed)
    rates = []
    for _ in web.ties:
        between = {pair: numbers.ratio() for pair in permutations(range(len(parting)), 2)}
        number = {kind: place for place, lot in enumerate(parting) for kind in lot}
        rates.append([
            [0 if a == b else between.get((number[a], number[b])) or numbers.ratio() for b in range(kinds)]
            for a in range(kinds)
        ])
    if spoilt is not None:
        tie, a, b = spoilt
        rates[tie][a][b] = rates[tie][a][b] + 1
    return Run(web, kinds, rates)


class TestLots(unittest.TestCase):

    def test_any_order(self):
        for kinds in range(1, 7):
            for many in range(1, kinds + 1):
                for lot in combinations(range(kinds), many):
                    for row in list(permutations(lot))[:6]:
                        self.assertEqual(check_lot(kinds, row), lot)
                        self.assertEqual(check_lot(kinds, list(row)), lot)

    def test_the_argument_is_not_changed(self):
        lot, parting = [2, 0], [[2], [1, 0]]
        check_lot(3, lot)
        check_parting(3, parting)
        self.assertEqual((lot, parting), ([2, 0], [[2], [1, 0]]))

    def test_wrong_ones(self):
        for kinds in WRONG_KINDS:
            self.assertEqual(told(check_lot, kinds, None), ("BadNumber", "kinds"))
        for lot, place in [
            (None, -1), ("01", -1), ({0}, -1), ((), -1), ([], -1), (0, -1), ([3], 0), ([0, 3, 4], 1), ([0, -1, 0], 1),
            ([0, 1, 0, 1], 2), ([2, 2, 9], 1), (["0"], 0), ([1, None], 1), ([0, Ratio(1)], 1), ([0, 1, 2, 0], 3),
            ([[0]], 0),
        ]:
            self.assertEqual(told(check_lot, 3, lot), ("BadLot", place), lot)


class TestPartings(unittest.TestCase):

    def test_any_order(self):
        numbers = Numbers()
        for kinds in range(1, 7):
            for parting in partings_by_hand(kinds):
                row = numbers.shuffled([numbers.shuffled(lot) for lot in parting])
                self.assertEqual(check_parting(kinds, row), parting)
                self.assertEqual(check_parting(kinds, tuple(tuple(lot) for lot in row)), parting)

    def test_wrong_ones(self):
        for kinds in WRONG_KINDS:
            self.assertEqual(told(check_parting, kinds, None), ("BadNumber", "kinds"))
        for parting, place in [
            (None, -1), ("012", -1), ({0: 1}, -1), ([], -1), ([[0, 1]], -1), ([[0], [2]], -1), ([[2, 1]], -1),
            ([[0], 1, 2], 1), ([[0, 1], [], [3]], 1), ([[0, 1], [1, 2]], 1), ([[0], [1], [2], [0]], 3),
            ([[0, 0], [3]], 0), ([[0], [3]], 1), ([[0], "1", [1, 2]], 1), ([[0, 1, 2], [0]], 1), ([[0], [0], []], 1),
            ([[2], [1], [2, 0]], 2), ([None], 0), ([[1], [0, None]], 1), ([[0, 1, 2], []], 1),
        ]:
            self.assertEqual(told(check_parting, 3, parting), ("BadLot", place), parting)

    def test_all_of_them_in_order(self):
        for kinds, many in zip(range(1, 7), (1, 2, 5, 15, 52, 203)):
            found = all_partings(kinds)
            self.assertIsInstance(found, list)
            self.assertEqual(len(found), many)
            self.assertEqual(found, partings_by_hand(kinds))
        for kinds in WRONG_KINDS:
            self.assertEqual(told(all_partings, kinds), ("BadNumber", "kinds"))

    def test_each_list_is_new(self):
        all_partings(3).clear()
        self.assertEqual(len(all_partings(3)), 5)
        run = some_run(Web.row(3), 3)
        joinable_lots(run).clear()
        self.assertEqual(len(joinable_lots(run)), 4)


class TestJoinable(unittest.TestCase):

    def test_against_all_rates(self):
        seen = set()
        for web in (Web.row(3), Web.ring(3), Web.star(4), Web.ring(5)):
            for kinds in (2, 3, 4):
                for parting in all_partings(kinds):
                    for spoilt in (None, (len(web) - 1, 0, kinds - 1), (len(web) - 1, kinds - 1, 0), (0, 1, 0)):
                        seen |= self.check_lots(run_that_joins(web, kinds, parting, spoilt=spoilt), parting, spoilt)
        self.assertEqual(seen, {True, False})

    def check_lots(self, run, parting, spoilt):
        kinds = run.kinds
        lots = [lot for many in range(1, kinds + 1) for lot in combinations(range(kinds), many)]
        expected = [lot for lot in lots if is_joinable_by_hand(run, lot)]
        self.assertEqual(joinable_lots(run), expected)
        for lot in lots:
            self.assertIs(is_joinable(run, lot), lot in expected)
            self.assertIs(is_joinable(run, list(lot[::-1])), lot in expected)
        if spoilt is None:
            self.assertLessEqual(set(parting), set(expected))
        self.assertLessEqual({tuple(range(kinds))} | {(a,) for a in range(kinds)}, set(expected))
        return {len(expected) > kinds + 1}

    def test_six_kinds(self):
        run = two_rates(Web.row(3), 6, ahead=[1, 2], behind=[3, 0])
        self.assertEqual(joinable_lots(run), [
            tuple(range(low, low + many)) for many in range(1, 7) for low in range(7 - many)
        ])
        self.assertEqual(len(joinable_lots(Run.level(Web.row(3), 6))), 63)

    def test_rates_of_zero(self):
        run = Run(Web.row(3), 3, [[[0, 0, 2], [5, 0, 2], [0, 0, 0]], [[0, 1, 1], [0, 0, 1], [0, 0, 0]]])
        self.assertIs(is_joinable(run, [1, 0]), True)
        self.assertIs(is_joinable(run, [1, 2]), False)

    def test_wrong_ones(self):
        run = some_run(Web.row(4), 3)
        for lot, place in [(None, -1), ([], -1), ([0, 3], 1), ([1, 1, 9], 1), ([-1], 0)]:
            self.assertEqual(told(is_joinable, run, lot), ("BadLot", place))


class TestWords(unittest.TestCase):

    def test_lots_in_some_webs(self):
        # Only the rates count, not the shape of the web.
        for web in some_webs(4):
            run = run_that_joins(web, 3, ((0, 2), (1,)))
            self.assertIs(is_joinable(run, (2, 0)), True)
            self.assertIn((0, 2), joinable_lots(run))
            self.assertEqual(Crowd((2, 1, 1)).kinds, run.kinds)
