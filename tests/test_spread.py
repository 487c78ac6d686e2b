"""[109] to [113]: how evenly the walkers of a lot are spread over their places."""

import unittest
from fractions import Fraction
from itertools import combinations, permutations, product

from steprows.classes import class_table, classes_run
from steprows.crowds import Crowd, words_of
from steprows.evens import is_even, turn_sum
from steprows.flows import turning_run
from steprows.forms import ProductForm
from steprows.joins import joined_run, joins
from steprows.lasting import flow_function
from steprows.leans import Lean, lean_of, run_of
from steprows.lots import is_joinable, joinable_lots
from steprows.ratios import Ratio
from steprows.rounds import is_kept
from steprows.runs import Run
from steprows.shapes import is_join
from steprows.shares import Shares, local_shares, table_in
from steprows.solving import lasting_shares
from steprows.spread import is_spread, spread_fault, spread_sums, spreads
from steprows.standing import quickened, stands, table_of_run
from steprows.tables import RatioTable
from steprows.ways import balanced
from steprows.webs import Web
from tests.common import (
    BIG_CROWD, Numbers, fraction, kept_table, loose_threefold, ring_steps_of, small_crowds, some_classes, some_rows,
    some_run, some_webs, some_weights, spun_run, told,
)
from tests.test_lots import run_that_joins


def spread_by_hand(shares, lot):
    """By every two words that differ only inside the lot."""
    words = words_of(shares.crowd)
    for x, y in combinations(words, 2):
        if all(a == b or (a in lot and b in lot) for a, b in zip(x, y)) and shares[x] != shares[y]:
            return False
    return True


def with_inner_lean(web, kinds, lot, lean):
    """A full run in which the lot is joinable and has this lean inside, a table of its kinds for each tie."""
    base = run_that_joins(web, kinds, (lot,) + tuple((a,) for a in range(kinds) if a not in lot))
    rates = [[list(row) for row in table] for table in base.rates]
    for number, table in enumerate(lean):
        for (i, a), (j, b) in permutations(enumerate(lot), 2):
            rates[number][a][b] = 5 + max(Fraction(0), fraction(table[i][j]))
            rates[number][a][b] = Ratio(rates[number][a][b].numerator, rates[number][a][b].denominator)
    return Run(web, kinds, rates)


def lean_tables(web, many, seed, level=None):
    """Arbitrary leans of so many kinds at each tie; level keeps all but the first tie at 0."""
    numbers = Numbers(seed)
    found = []
    for number in range(len(web)):
        table = [[Ratio(0)] * many for _ in range(many)]
        for i, j in combinations(range(many), 2):
            if not level or number == 0:
                table[i][j] = numbers.ratio() - numbers.ratio()
                table[j][i] = -table[i][j]
        found.append(table)
    return found


def inner_cases(web, crowd):
    """Runs with a joinable lot: without a lean inside, with any, and with one that the shares do not show."""
    kinds = crowd.kinds
    for many in range(2, kinds):
        for lot in combinations(range(kinds), many):
            yield with_inner_lean(web, kinds, lot, [[[0] * many] * many] * len(web)), lot
            yield with_inner_lean(web, kinds, lot, lean_tables(web, many, 3)), lot
            yield with_inner_lean(web, kinds, lot, lean_tables(web, many, 4, level=True)), lot
            inner = Crowd([crowd.counts[a] for a in lot])
            for table in balanced(inner)[:1]:
                yield with_inner_lean(web, kinds, lot, [table] * len(web)), lot
                leans = [table if 0 in tie else [[0] * many] * many for tie in web]
                yield with_inner_lean(web, kinds, lot, leans), lot


class TestSums(unittest.TestCase):

    def test_against_leans(self):
        for web in some_webs(4):
            for crowd in (Crowd((2, 1, 1)), Crowd((1, 1, 1, 1))):
                run = some_run(web, crowd.kinds, zeros=True)
                for lot in ([0], [2, 0], [1, 2, 0], list(range(crowd.kinds))):
                    found = spread_sums(run, crowd, lot)
                    self.assertIsInstance(found, list)
                    expected = [
                        (u, v, a, sum(crowd.counts[b] * fraction(run.lean(u, v, a, b)) for b in lot))
                        for u, v in web for a in sorted(lot)
                    ]
                    self.assertEqual([(u, v, a, fraction(total)) for u, v, a, total in found], expected)
                    self.assertTrue(all(isinstance(total, Ratio) for _, _, _, total in found))

    def test_many_words(self):
        run = some_run(Web.row(8), 6)
        found = spread_sums(run, BIG_CROWD, [5, 0])
        self.assertEqual(found[:2], [(0, 1, 0, run.lean(0, 1, 0, 5)), (0, 1, 5, run.lean(0, 1, 5, 0) * 2)])
        self.assertEqual(len(found), 14)

    def test_wrong_ones_in_order(self):
        run = some_run(Web.row(4), 3)
        for crowd in (Crowd((2, 2)), Crowd((1, 1, 1)), Crowd((2, 2, 1))):
            self.assertEqual(told(spread_sums, run, crowd, None), ("Unfit",))
        for lot, place in [(None, -1), ([], -1), ([0, 3], 1), ([1, 1, 9], 1), ([-1], 0)]:
            self.assertEqual(told(spread_sums, run, Crowd((2, 1, 1)), lot), ("BadLot", place))


class TestSpreads(unittest.TestCase):

    def test_against_solved_shares(self):
        seen = set()
        for web, crowds in (
            (Web.row(3), (Crowd((1, 1, 1)),)), (Web.ring(3), (Crowd((1, 1, 1)),)),
            (Web.ring(4), (Crowd((2, 1, 1)), Crowd((1, 2, 1)), Crowd((1, 1, 1, 1)))), (Web.row(4), (Crowd((1, 1, 1, 1)),)),
            (Web.star(4), (Crowd((1, 1, 2)), Crowd((1, 1, 1, 1)))), (Web.full(4), (Crowd((1, 1, 1, 1)),)),
            (Web.ring(4) + (0, 2), (Crowd((1, 1, 1, 1)),)),
        ):
            for crowd in crowds:
                for run, lot in inner_cases(web, crowd):
                    self.assertTrue(is_joinable(run, lot))
                    shares = lasting_shares(run, crowd)
                    expected = spread_by_hand(shares, lot)
                    self.assertIs(spreads(run, crowd, lot), expected)
                    self.assertIs(spreads(run, crowd, list(lot[::-1])), expected)
                    self.assertIs(is_spread(shares, lot), expected)
                    self.check_fault(run, crowd, lot, expected)
                    still = all(run.lean(u, v, a, b) == 0 for u, v in web for a, b in combinations(lot, 2))
                    if not is_join(web) or len(lot) == 2:
                        self.assertIs(expected, still)
                    word = spread_fault(run, crowd, lot)
                    seen.add((word and word[0], still))
        # On a join a lean inside the lot may be hidden from the shares.
        self.assertEqual(seen, {(None, True), (None, False), ("sum", False), ("turn", False)})

    def check_fault(self, run, crowd, lot, expected):
        fault = spread_fault(run, crowd, lot)
        self.assertIs(fault is None, expected)
        if fault is None:
            return
        self.assertIsInstance(fault, tuple)
        word, places, kinds = fault
        sums = {(u, v, a): total for u, v, a, total in spread_sums(run, crowd, lot)}
        if word == "sum":
            self.assertNotEqual(sums[places + kinds], 0)
            return
        self.assertEqual(word, "turn")
        self.assertFalse(any(sums.values()))
        self.assertEqual((len(set(places)), len(set(kinds))), (3, 3))
        self.assertLessEqual(set(kinds), set(lot))
        self.assertNotEqual(turn_sum(lean_of(run), places, kinds), 0)

    def test_a_turn_of_the_last_kinds(self):
        web, crowd = Web.row(8), Crowd((1, 2, 2, 1, 1, 1))
        lot = (2, 3, 4, 5)
        table = balanced(Crowd((2, 1, 1, 1)))[-1]
        leans = [[[0] * 4] * 4] * 6 + [table]
        run = with_inner_lean(web, 6, lot, leans)
        word, places, kinds = spread_fault(run, crowd, lot)
        self.assertEqual(word, "turn")
        self.assertNotEqual(turn_sum(lean_of(run), places, kinds), 0)
        self.assertFalse(spreads(run, crowd, lot))
        run = with_inner_lean(web, 6, lot, leans[:6] + [[[0] * 4] * 4])
        self.assertTrue(spreads(run, crowd, lot))
        run = with_inner_lean(web, 6, lot, leans[:6] + [[[0, 0, 0, 0], [0, 0, 0, 0], [0, 0, 0, 1], [0, 0, -1, 0]]])
        self.assertEqual(spread_fault(run, crowd, lot)[:2], ("sum", (6, 7)))

    def test_wrong_ones_in_order(self):
        web, crowd = Web.ring(4), Crowd((2, 1, 1))
        part, full = some_run(web, 3, zeros=True), some_run(web, 3)
        joined = run_that_joins(web, 3, ((0, 1), (2,)))
        zero = Run(web, 3, [[[0, 0, 1], [1, 0, 1], [1, 1, 0]]] * 4)
        for call in (spreads, spread_fault):
            for other in (Crowd((2, 2)), Crowd((1, 1, 1)), Crowd((2, 2, 1))):
                self.assertEqual(told(call, part, other, None), ("Unfit",))
            for lot, place in [(None, -1), ([], -1), ([0, 3], 1), ([1, 1], 1), ([2, 1, 2], 2)]:
                self.assertEqual(told(call, part, crowd, lot), ("BadLot", place))
            for lot in ([0], [2], [0, 1, 2], [2, 0, 1]):
                self.assertEqual(told(call, part, crowd, lot), ("BadLot", -1))
                self.assertEqual(told(call, joined, crowd, lot), ("BadLot", -1))
            self.assertEqual(told(call, part, crowd, [0, 2]), ("NotFull",))
            self.assertEqual(told(call, zero, crowd, [0, 1]), ("NotFull",))
            self.assertEqual(told(call, full, crowd, [0, 2]), ("NotJoined",))
            self.assertEqual(told(call, joined, crowd, [0, 2]), ("NotJoined",))
            self.assertIsNone(told(call, joined, crowd, [1, 0]))
            self.assertEqual(told(call, some_run(web, 2), Crowd((2, 2)), [0, 1]), ("BadLot", -1))


class TestIsSpread(unittest.TestCase):

    def test_against_all_words(self):
        seen = set()
        for crowd in small_crowds(4, (1, 2, 3, 4)) + [Crowd((2, 2, 1)), Crowd((2,))]:
            lots = [lot for many in range(1, crowd.kinds + 1) for lot in combinations(range(crowd.kinds), many)]
            some = [Shares.even(crowd), Shares(crowd, some_weights(crowd))]
            some.append(Shares(crowd, [1] * (crowd.many - 1) + [2]))
            for lot in lots:
                some.append(Shares(crowd, [1 + sum(place for place, kind in enumerate(word) if kind in lot)
                                           for word in words_of(crowd)]))
            for shares, lot in product(some, lots):
                expected = spread_by_hand(shares, lot)
                self.assertIs(is_spread(shares, list(lot[::-1])), expected)
                seen.add((expected, len(lot) > 1))
        self.assertEqual(seen, {(True, True), (True, False), (False, True)})

    def test_wrong_ones(self):
        shares = Shares.even(Crowd((2, 1, 1)))
        for lot, place in [(None, -1), ([], -1), ([0, 3], 1), ([1, 1, 9], 1), ([-1], 0)]:
            self.assertEqual(told(is_spread, shares, lot), ("BadLot", place))

    def test_local_shares(self):
        seen = set()
        for web in some_webs(4):
            for crowd in (Crowd((2, 1, 1)), Crowd((1, 2, 1)), Crowd((1, 1, 1, 1))):
                tables = [kept_table(web, crowd), RatioTable.even(web, crowd.kinds)]
                for lot in [(0, 1), (1, 2), (0, 2)] + [(0, 1, 2)] * (crowd.kinds - 3):
                    numbers = Numbers(2)
                    spots = [
                        [Ratio(3) if a in lot else 1 + numbers.below(4) for a in range(crowd.kinds)] for _ in range(4)
                    ]
                    form = ProductForm(web, crowd, [[one * place for one in row] for place, row in zip((1, 2, 5, 3), spots)])
                    tables.append(form.table())
                for table in tables:
                    shares = local_shares(table, crowd)
                    for many in range(1, crowd.kinds + 1):
                        for lot in combinations(range(crowd.kinds), many):
                            outside = [c for c in range(crowd.kinds) if c not in lot]
                            alike = all(
                                all(table.at(u, v, a, b) == 1 for a, b in permutations(lot, 2))
                                and all(table.at(u, v, a, c) == table.at(u, v, lot[0], c) for a in lot for c in outside)
                                for u, v in web
                            )
                            self.assertIs(is_spread(shares, lot), alike)
                            seen.add((alike, many > 1))
        self.assertEqual(seen, {(True, True), (True, False), (False, True)})

    def test_product_forms(self):
        seen = set()
        for web, crowd in ((Web.star(4), Crowd((2, 1, 1))), (Web.row(3), Crowd((1, 1, 1)))):
            for seed in range(1, 6):
                numbers = Numbers(seed)
                rows = [[Ratio(1 + numbers.below(2)) for _ in range(3)] for _ in range(crowd.size)]
                shares = ProductForm(web, crowd, rows).laid()
                for lot in ((0, 1), (0, 2), (1, 2), (0, 1, 2)):
                    same = all(
                        row[a].over(row[b]) == rows[0][a].over(rows[0][b]) for row in rows for a, b in permutations(lot, 2)
                    )
                    self.assertIs(is_spread(shares, lot), same)
                    seen.add(same)
        self.assertEqual(seen, {True, False})


class TestStandingOnes(unittest.TestCase):

    def standing_cases(self):
        """Standing runs with a joinable lot, with and without a lean inside."""
        for web in some_webs(4):
            crowd = Crowd((1, 1, 1, 1))
            for lot in ((0, 1), (1, 3), (0, 1, 2)):
                numbers = Numbers(4)
                spots = [numbers.ratios(4) for _ in range(4)]
                for row in spots:
                    for a in lot:
                        row[a] = row[lot[0]]
                yield web, crowd, lot, Run(web, 4, [
                    [[0 if a == b else spots[u][b] * spots[v][a] for b in range(4)] for a in range(4)] for u, v in web
                ])
            if web.along is not None:
                # Read along the line, the ratios inside the lot are the same at each tie.
                turned = Ratio(3) if len(web) == 4 else None
                for lot in ((0, 1, 2), (1, 2, 3)):
                    x = {(lot[0], lot[1]): Ratio(3), (lot[1], lot[2]): Ratio(3), (lot[2], lot[0]): turned or Ratio(5)}
                    steps = list(zip(web.along, web.along[1:] + web.along[:1]))
                    rates = []
                    for tie in web:
                        table = [[0 if a == b else Ratio(1) for b in range(4)] for a in range(4)]
                        for (a, b), ratio in x.items():
                            table[a][b], table[b][a] = (ratio, Ratio(1)) if tie in steps else (Ratio(1), ratio)
                        rates.append(table)
                    yield web, crowd, lot, Run(web, 4, rates)

    def test_leans_inside(self):
        seen = set()
        for web, crowd, lot, run in self.standing_cases():
            self.assertTrue(stands(run, crowd) and is_joinable(run, lot))
            still = all(run.lean(u, v, a, b) == 0 for u, v in web for a, b in combinations(lot, 2))
            self.assertIs(spreads(run, crowd, lot), still)
            self.assertIs(is_spread(lasting_shares(run, crowd), lot), still)
            if web.along is None:
                self.assertTrue(still)
            else:
                self.check_along(web, crowd, lot, table_of_run(run))
            seen.add(still)
        self.assertEqual(seen, {True, False})

    def check_along(self, web, crowd, lot, table):
        steps = list(zip(web.along, web.along[1:]))
        if len(web) == web.size:
            steps = ring_steps_of(web)
            for a in lot:
                value = Ratio(1)
                for c in lot:
                    value = value * table.at(*steps[0], a, c).to_power(crowd.counts[c])
                self.assertEqual(value, 1)
        for a, b in permutations(lot, 2):
            self.assertEqual(len({table.at(p, r, a, b).told() for p, r in steps}), 1)


class TestEvenOnes(unittest.TestCase):

    def test_sums_of_even_runs(self):
        seen = set()
        for web in some_webs(4):
            crowd = Crowd((1, 1, 1, 1))
            runs = [Run.level(web, 4), turning_run(web, crowd)]
            if is_join(web):
                # The kinds of the lot lean round between the pieces; those outside do not.
                table = [[0, 1, -1, 0], [-1, 0, 1, 0], [1, -1, 0, 0], [0, 0, 0, 0]]
                centre = [u for u in range(4) if len(web.near(u)) == 3]
                for u in centre[:1]:
                    runs.append(run_of(web, Lean(4, 4, [
                        [[one * ((v == u) - (w == u)) for one in row] for row in table]
                        for v, w in combinations(range(4), 2)
                    ])))
            for run in [one for one in runs if one is not None]:
                self.assertTrue(is_even(run, crowd))
                for lot in joinable_lots(run):
                    if len(lot) < 4:
                        self.assertFalse(any(total for _, _, _, total in spread_sums(run, crowd, lot)))
                        for places, kinds in product(combinations(range(4), 3), combinations(lot, 3)):
                            self.assertEqual(turn_sum(lean_of(run), places, kinds), 0)
                        still = all(run.lean(u, v, a, b) == 0 for u, v in web for a, b in combinations(lot, 2))
                        if not is_join(web):
                            self.assertTrue(still)
                        seen.add((len(lot), still))
        self.assertIn((3, False), seen)


class TestClassRuns(unittest.TestCase):

    def test_lots_lie_in_classes(self):
        for size, crowd, parting in ((4, Crowd((1, 1, 1, 1)), ((0, 1, 2), (3,))), (5, Crowd((1, 1, 1, 2)), ((0, 1), (2, 3)))):
            web = Web.ring(size)
            for seed in (1, 2, 3):
                classes = some_classes(crowd, parting, seed)
                for speeds in ([[1] * 6] * size, some_rows(web, 4)):
                    run = classes_run(web, classes, speeds)
                    for lot in joinable_lots(run):
                        if len(lot) < 4:
                            self.assertEqual(len({classes.class_of(a) for a in lot}), 1)
                            for a in lot:
                                value = Ratio(1)
                                for c in lot:
                                    value = value * classes.ratios[a][c].to_power(crowd.counts[c])
                                self.assertEqual(value, 1)

    def test_classes_join(self):
        crowd, web = Crowd((1, 1, 1, 1)), Web.ring(4)
        seen = set()
        for ratio in (Ratio(2), Ratio(1)):
            back = ratio.inverse()
            table = [[1, ratio, back, 1], [back, 1, ratio, 1], [ratio, back, 1, 1], [1, 1, 1, 1]]
            classes = some_classes(crowd, ((0, 1, 2), (3,)))
            classes = classes.__class__(crowd, classes.parting, classes.leans, table)
            speeds = [[a, b, c, d, c, c] for a, b, c, d in ((1, 2, 5, 3), (2, 2, 1, 1), (3, 1, 1, 2), (1, 1, 7, 1))]
            # The pairs with kind 3 are at the numbers 2, 4 and 5.
            run = classes_run(web, classes, speeds)
            self.assertTrue(joins(run, classes.parting))
            self.assertTrue(is_even(joined_run(run, classes.parting), Crowd((3, 1))))
            flat = ratio == 1
            self.assertIs(spreads(run, crowd, (0, 1, 2)), flat)
            self.assertIs(is_spread(local_shares(class_table(web, classes), crowd), (0, 1, 2)), flat)
            seen.add(flat)
        self.assertEqual(seen, {True, False})

    def test_loose_webs_with_local_shares(self):
        seen = set()
        for web in loose_threefold() + [Web.ring(5), Web.ring(6)]:
            crowd = Crowd((web.size - 2, 2)) if web.size < 6 else Crowd((2, 2, web.size - 4))
            if crowd.kinds == 2:
                continue
            spun, table = spun_run(web, 3)
            for run in (spun, self.lot_run(web, (0, 1)), self.lot_run(web, (1, 2))):
                table = table_of_run(run) if run != spun else table
                self.assertTrue(is_kept(table, crowd))
                flow = flow_function(run, table)
                for lot in joinable_lots(run):
                    if len(lot) == 2:
                        a, b = lot
                        self.assertFalse(any(flow.at(u, v, a, b) for u, v in web))
                        self.assertTrue(web.along is not None or not any(run.lean(u, v, a, b) for u, v in web))
                        seen.add(lot)
        self.assertEqual(seen, {(0, 1), (1, 2)})

    def lot_run(self, web, lot):
        spots = [[2 if a in lot else 1 + u for a in range(3)] for u in range(web.size)]
        return Run(web, 3, [
            [[0 if a == b else spots[u][b] * spots[v][a] for b in range(3)] for a in range(3)] for u, v in web
        ])


class TestOneRateChanged(unittest.TestCase):

    def test_shares_that_are_local_and_not_spread(self):
        web, crowd = Web.ring(3), Crowd((1, 1, 1))
        run = quickened(Run.level(web, 3), 0, 1, 2)
        self.assertTrue(spreads(run, crowd, (0, 1)))
        rates = [[list(row) for row in table] for table in run.rates]
        rates[2][2][1] = Ratio(4)
        other = Run(web, 3, rates)
        self.assertEqual(spread_fault(other, crowd, (1, 2))[:2], ("sum", (1, 2)))
        self.assertIsNotNone(table_in(web, lasting_shares(other, crowd)))
