"""[91] to [95]: ties at which kinds are balanced or level, steps, and what lasts on loose webs."""

import unittest
from itertools import combinations, permutations, product

from steprows.backs import backwards
from steprows.crowds import Crowd
from steprows.evens import is_even
from steprows.flows import turning_run
from steprows.forms import form_of
from steprows.lasting import flow_function, lasts
from steprows.leans import Lean, run_of
from steprows.levels import flow_pieces, lasts_loose, loose_fault, no_flow, tie_sort, tie_steps
from steprows.ratios import Ratio
from steprows.runs import Run
from steprows.shapes import is_join, is_loose, is_star, is_tree, shape
from steprows.shares import local_shares, table_in
from steprows.solving import lasting_shares
from steprows.standing import is_lasting, is_standing, quickened, stands, table_of_run
from steprows.tables import RatioTable
from steprows.ways import always_stands, even_base, even_ways, standless
from steprows.webs import Web
from tests.common import (
    BIG_CROWD, Numbers, all_ratios, even_lean, even_run, flow_by_words, fraction, joined_by, kept_table,
    loose_threefold, small_crowds, some_run, some_standing_run, some_table, some_webs, spun_run, told, word_chances,
)


def entry(run, table, u, v, a, b):
    """The flow function, by [50]."""
    if a == b:
        return 0
    return fraction(table.at(u, v, a, b)) * fraction(run.rate(u, v, b, a)) - fraction(run.rate(u, v, a, b))


def mixed_run(web, kinds, seed=1):
    """A run and a table with which two kinds are balanced, level, both or neither, by chance."""
    numbers = Numbers(seed)
    rates, entries = [], []
    for _ in web.ties:
        table = [[Ratio(1)] * kinds for _ in range(kinds)]
        speeds = [[Ratio(0)] * kinds for _ in range(kinds)]
        for a, b in combinations(range(kinds), 2):
            table[a][b] = numbers.choice([Ratio(1), Ratio(2), Ratio(1, 3)])
            table[b][a] = table[a][b].inverse()
            speeds[a][b] = numbers.choice([Ratio(0), Ratio(2), Ratio(6)])
            speeds[b][a] = numbers.choice([speeds[a][b] * table[b][a], Ratio(1)])
        rates.append(speeds)
        entries.append(table)
    return Run(web, kinds, rates), RatioTable(web, kinds, entries)


def stepped_run(web, kinds, heights):
    """A full run that has these steps at each tie by the flat table."""
    span = range(kinds)
    return Run(web, kinds, [
        [[0 if a == b else 30 + max(0, row[b] - row[a]) for b in span] for a in span] for row in heights
    ])


class TestTies(unittest.TestCase):

    def test_sorts(self):
        seen = set()
        for web in some_webs(4):
            for kinds in (2, 3):
                run, table = mixed_run(web, kinds)
                for (u, v), (a, b) in product(web, permutations(range(kinds), 2)):
                    still, level = entry(run, table, u, v, a, b) == 0, table.at(u, v, a, b) == 1
                    word = {(True, True): "both", (True, False): "balanced", (False, True): "level"}.get(
                        (still, level), "neither"
                    )
                    self.assertEqual(tie_sort(run, table, u, v, a, b), word)
                    self.assertEqual(tie_sort(run, table, v, u, b, a), word)
                    self.assertEqual(tie_sort(run, table, u, v, b, a), word)
                    back = -(fraction(table.at(u, v, b, a)) * entry(run, table, u, v, a, b))
                    self.assertEqual(entry(run, table, u, v, b, a), back)
                    seen.add(word)
        self.assertEqual(seen, {"both", "balanced", "level", "neither"})

    def test_steps(self):
        seen = set()
        for web in some_webs(4):
            for kinds in (2, 3, 4):
                cases = [mixed_run(web, kinds), spun_run(web, kinds), (some_run(web, kinds), RatioTable.even(web, kinds))]
                own = some_run(web, kinds, seed=5)
                cases.append((own, table_of_run(own)))
                for run, table in cases:
                    for u, v in web:
                        seen.add(self.check_steps(run, table, u, v))
                        self.check_steps(run, table, v, u)
        self.assertEqual(seen, {(True, True), (True, False), (False, False)})

    def check_steps(self, run, table, u, v):
        span = range(run.kinds)
        heights = [entry(run, table, u, v, a, 0) for a in span]
        found = tie_steps(run, table, u, v)
        there = all(entry(run, table, u, v, a, b) == heights[a] - heights[b] for a, b in product(span, span))
        self.assertIs(found is not None, there)
        if there:
            self.assertIsInstance(found, tuple)
            self.assertTrue(all_ratios(found))
            self.assertEqual([fraction(one) for one in found], heights)
            self.assertEqual(found[0], 0)
            for a, b in permutations(span, 2):
                self.assertNotEqual(tie_sort(run, table, u, v, a, b), "neither")
        return there, there and any(heights)

    def test_steps_with_places_turned(self):
        run = stepped_run(Web.row(3), 3, [(0, 2, 5), (0, 0, 0)])
        flat = RatioTable.even(Web.row(3), 3)
        self.assertEqual(tie_steps(run, flat, 0, 1), (0, 2, 5))
        self.assertEqual(tie_steps(run, flat, 1, 0), (0, -2, -5))
        self.assertEqual(tie_steps(run, flat, 2, 1), (0, 0, 0))

    def test_wrong_ones_in_order(self):
        run, table = some_run(Web.row(4), 3), some_table(Web.row(4), 3)
        for other in (some_table(Web.star(4), 3), some_table(Web.row(4), 2), some_table(Web.row(5), 3)):
            self.assertEqual(told(tie_sort, run, other, 9, 9, 9, 9), ("Unfit",))
            self.assertEqual(told(tie_steps, run, other, 9, 9), ("Unfit",))
            self.assertEqual(told(flow_pieces, run, other), ("Unfit",))
        for u, v, wrong in [
            (4, 9, ("BadPlace", 4)), (0, -1, ("BadPlace", -1)), (1, 1, ("BadPlace", 1)), ("0", 1, ("BadPlace", "0")),
            (2, 0, ("NoTie", 2, 0)), (0, 3, ("NoTie", 0, 3)),
        ]:
            self.assertEqual(told(tie_sort, run, table, u, v, 9, 9), wrong)
            self.assertEqual(told(tie_steps, run, table, u, v), wrong)
        for a, b, wrong in [(3, 9, 3), (0, 3, 3), (-1, -1, -1), (1, 1, 1), ("0", "0", "0"), (2, 2, 2), (0, None, None)]:
            self.assertEqual(told(tie_sort, run, table, 1, 0, a, b), ("BadKind", wrong))


def loose_webs():
    return [web for size in (5, 6) for web in some_webs(size) if is_loose(web)] + loose_threefold()


def roomy_crowds(size):
    return [crowd for crowd in small_crowds(size, (2, 3)) if min(crowd.counts) > 1]


def loose_cases(web, crowd):
    """Runs with kept tables: standing, spun, nearly so, and arbitrary ones."""
    kinds = crowd.kinds
    flat = RatioTable.even(web, kinds)
    standing = some_standing_run(web, crowd)
    spun, by = spun_run(web, kinds)
    numbers = Numbers(3)
    stepped = stepped_run(web, kinds, [[0] + [numbers.below(9) - 4 for _ in range(kinds - 1)] for _ in web.ties])
    cases = [
        (standing, kept_table(web, crowd)), (standing, flat), (spun, by), (spun, flat),
        (quickened(spun, *web.ties[-1], Ratio(3, 2)), by), (even_run(web, kinds), flat), (stepped, flat),
        (some_run(web, kinds), flat), (some_run(web, kinds, zeros=True), kept_table(web, crowd)),
        (run_of(web, even_lean(web, crowd), level=0), flat), (spun + standing, by),
    ]
    if shape(web) == "ring":
        other, _ = spun_run(web, kinds, seed=7)
        cases.append((other, by))
    return cases


class TestLoose(unittest.TestCase):

    def test_webs(self):
        self.assertTrue(all(is_loose(web) for web in loose_threefold()))
        self.assertEqual({shape(web) for web in loose_threefold()}, {"threefold"})
        self.assertEqual({shape(web) for web in loose_webs()}, {"row", "ring", "threefold"})

    def test_against_all_sums_and_all_words(self):
        seen = set()
        for web in loose_webs():
            for crowd in roomy_crowds(web.size):
                for run, table in loose_cases(web, crowd):
                    last = lasts(run, table, crowd)
                    self.assertIs(lasts_loose(run, table, crowd), last)
                    if web.size == 5:
                        self.assertIs(is_lasting(run, local_shares(table, crowd)), last)
                    fault = loose_fault(run, table, crowd)
                    self.assertIs(fault is None, last)
                    seen.add((self.check_fault(run, table, fault), is_standing(run, local_shares(table, crowd))))
        self.assertEqual({word for word, _ in seen}, {None, "neither", "steps", "round"})
        self.assertIn((None, False), seen)
        self.assertIn((None, True), seen)

    def check_fault(self, run, table, fault):
        web, span = run.web, range(run.kinds)
        neither = {
            ((u, v), (a, b)) for u, v in web for a, b in permutations(span, 2)
            if entry(run, table, u, v, a, b) != 0 and table.at(u, v, a, b) != 1
        }
        steps = {
            ((u, v), (a, b, c)) for u, v in web for a, b, c in permutations(span, 3)
            if entry(run, table, u, v, a, c) != entry(run, table, u, v, a, b) + entry(run, table, u, v, b, c)
        }
        sums = {
            ((u,), (a, b)) for u in range(web.size) for a, b in permutations(span, 2)
            if sum(entry(run, table, u, v, a, b) for v in web.near(u)) != 0
        }
        for word, faults in (("neither", neither), ("steps", steps), ("round", sums)):
            if faults:
                self.assertIsInstance(fault, tuple)
                self.assertEqual((len(fault), fault[0]), (3, word))
                self.assertIn(fault[1:], faults)
                return word
        self.assertIsNone(fault)
        return None

    def test_many_words(self):
        for web, crowd in ((Web.ring(8), Crowd((2, 2, 2, 2))), (loose_threefold()[3], Crowd((3, 2, 2)))):
            run, table = spun_run(web, crowd.kinds)
            self.assertIs(lasts_loose(run, table, crowd), True)
            self.assertIs(lasts_loose(quickened(run, 0, 1), table, crowd), False)
            self.assertEqual(loose_fault(quickened(run, 0, 1), table, crowd)[0], "round")

    def test_one_fault_at_the_last_tie_and_kinds(self):
        web, crowd = Web.ring(6), Crowd((2, 2, 2))
        flat = RatioTable.even(web, 3)
        for heights, fault in [
            ([(0, 0, 0)] * 5 + [(0, 0, 4)], ("round",)), ([(0, 0, 0)] * 6, None),
        ]:
            run = stepped_run(web, 3, heights)
            found = loose_fault(run, flat, crowd)
            self.assertEqual(found if found is None else found[:1], fault)
            self.assertIs(lasts_loose(run, flat, crowd), fault is None)
        rates = [[list(row) for row in table] for table in stepped_run(web, 3, [(0, 0, 0)] * 6).rates]
        rates[5][1][2] = Ratio(31)
        self.assertEqual(loose_fault(Run(web, 3, rates), flat, crowd)[:2], ("steps", (4, 5)))

    def test_even_ones(self):
        for web in loose_webs():
            for crowd in roomy_crowds(web.size):
                flat = RatioTable.even(web, crowd.kinds)
                for run, _ in loose_cases(web, crowd):
                    self.assertIs(is_even(run, crowd), lasts_loose(run, flat, crowd))
                ways = (len(web) - web.size + 1) * (crowd.kinds - 1)
                self.assertEqual((even_ways(web, crowd), len(even_base(web, crowd))), (ways, ways))

    def test_the_two_conditions_are_enough_everywhere(self):
        seen = set()
        for size in (3, 4):
            for web in some_webs(size):
                for crowd in small_crowds(size):
                    for run, table in loose_cases(web, crowd):
                        stepped = all(tie_steps(run, table, u, v) is not None for u, v in web)
                        round_about = all(
                            sum(entry(run, table, u, v, a, b) for v in web.near(u)) == 0
                            for u in range(size) for a, b in permutations(range(crowd.kinds), 2)
                        )
                        last = lasts(run, table, crowd)
                        seen.add((stepped and round_about, last))
        # The premises are needed: something lasts without the conditions.
        self.assertEqual(seen, {(True, True), (False, True), (False, False)})

    def test_spots_where_the_steps_are_unlike(self):
        seen = set()
        for web in loose_threefold():
            for crowd in roomy_crowds(web.size):
                run, table = spun_run(web, crowd.kinds)
                spots = form_of(table, crowd).spots
                for u, v in web:
                    steps = tie_steps(run, table, u, v)
                    for a, b in combinations(range(crowd.kinds), 2):
                        level = spots[u][a] * spots[v][b] == spots[u][b] * spots[v][a]
                        self.assertTrue(level or steps[a] == steps[b])
                        seen.add((level, steps[a] == steps[b]))
        self.assertIn((False, True), seen)
        self.assertIn((True, False), seen)

    def test_wrong_ones_in_order(self):
        web, crowd = Web.ring(5), Crowd((3, 2))
        run, odd = some_run(web, 2), some_table(web, 2)
        ring4, ring4_table = some_run(Web.ring(4), 2), some_table(Web.ring(4), 2)
        for call in (lasts_loose, loose_fault):
            for first, second, third in [
                (ring4, some_table(Web.star(4), 2), Crowd((3, 1))), (ring4, some_table(Web.ring(4), 3), Crowd((3, 1))),
                (ring4, ring4_table, Crowd((1, 1, 2))), (ring4, ring4_table, Crowd((4, 1))), (run, odd, Crowd((4, 2))),
            ]:
                self.assertEqual(told(call, first, second, third), ("Unfit",))
            self.assertEqual(told(call, ring4, ring4_table, Crowd((3, 1))), ("NotLoose",))
            self.assertEqual(told(call, run, odd, Crowd((4, 1))), ("NotRoomy",))
            self.assertEqual(told(call, run, odd, Crowd((1, 4))), ("NotRoomy",))
            name, walk = told(call, run, odd, crowd)
            self.assertEqual((name, walk[0]), ("NotKept", walk[-1]))
            self.assertEqual(told(call, run, kept_table(web, crowd), crowd), None)


class TestNoFlow(unittest.TestCase):

    def cases(self):
        for web in some_webs(3) + some_webs(4) + [Web.ring(5), Web.star(5), loose_threefold()[4]]:
            for crowd in (Crowd((web.size - 1, 1)), Crowd((web.size - 2, 2)), Crowd((1, web.size - 2, 1))):
                for run, table in loose_cases(web, crowd):
                    yield run, table, crowd
                for run in (turning_run(web, crowd), standless(web, crowd)):
                    if run is not None:
                        yield run, RatioTable.even(web, crowd.kinds), crowd

    def test_against_all_words(self):
        seen = set()
        for run, table, crowd in self.cases():
            if not lasts(run, table, crowd):
                self.assertEqual(told(no_flow, run, table, crowd), ("NotLocal",))
                continue
            web, span = run.web, range(crowd.kinds)
            chances = word_chances(local_shares(table, crowd))
            still = not any(flow_by_words(run, chances, u, v, a) for (u, v), a in product(web, span))
            self.assertIs(no_flow(run, table, crowd), still)
            zero = flow_function(run, table) == flow_function(run, table) * 0
            if not is_join(web) or crowd.kinds == 2:
                self.assertIs(still, zero)
                if run.filled:
                    self.assertIs(still, table == table_of_run(run))
                self.check_numbers(run, table)
            seen.add((still, zero, run.filled))
        self.assertEqual({(True, False), (True, True), (False, False)}, {one[:2] for one in seen})
        self.assertEqual({True, False}, {one[2] for one in seen})

    def check_numbers(self, run, table):
        span = range(run.kinds)
        for u, v in run.web:
            rows = [[(1 + fraction(table.at(u, v, b, a))) * entry(run, table, u, v, a, b) for b in span] for a in span]
            for a, b in product(span, span):
                self.assertEqual(rows[a][b], rows[a][0] - rows[b][0])

    def test_wrong_ones_in_order(self):
        run, table = some_run(Web.ring(8), 6), some_table(Web.ring(8), 6)
        self.assertEqual(told(no_flow, run, some_table(Web.row(8), 6), BIG_CROWD), ("Unfit",))
        self.assertEqual(told(no_flow, run, some_table(Web.ring(8), 5), BIG_CROWD), ("Unfit",))
        for crowd in (Crowd((2, 2, 2, 1, 1)), Crowd((1,) * 6)):
            self.assertEqual(told(no_flow, run, table, crowd), ("Unfit",))
        self.assertEqual(told(no_flow, run, table, BIG_CROWD), ("TooMany", 10080))
        small, crowd = some_run(Web.ring(4), 3), Crowd((2, 1, 1))
        self.assertEqual(told(no_flow, small, some_table(Web.ring(4), 3), crowd)[0], "NotKept")
        self.assertEqual(told(no_flow, small, kept_table(Web.ring(4), crowd), crowd), ("NotLocal",))


class TestFlowPieces(unittest.TestCase):

    def test_against_all_entries(self):
        seen = set()
        for web in some_webs(4) + some_webs(5) + loose_threefold():
            for kinds in (2, 3):
                for run, table in [mixed_run(web, kinds, seed) for seed in (1, 2, 3)] + [spun_run(web, kinds)]:
                    ties = [
                        (u, v) for u, v in web
                        if any(entry(run, table, u, v, a, b) for a, b in permutations(range(kinds), 2))
                    ]
                    label = joined_by(web.size, ties)
                    expected = tuple(
                        tuple(place for place in range(web.size) if label[place] == least)
                        for least in sorted(set(label))
                    )
                    self.assertEqual(flow_pieces(run, table), expected)
                    seen.add(len(expected))
        self.assertLess(3, len(seen))

    def test_a_standing_one(self):
        run = some_run(Web.star(4), 3)
        self.assertEqual(flow_pieces(run, table_of_run(run)), ((0,), (1,), (2,), (3,)))


class TestLocalOnes(unittest.TestCase):

    def test_trees_that_are_no_stars(self):
        seen = set()
        trees = [web for size in (4, 5) for web in some_webs(size) if is_tree(web)] + loose_threefold()[:1]
        for web in trees:
            for crowd in (Crowd((web.size - 1, 1)), Crowd((web.size - 2, 2)), Crowd((web.size - 2, 1, 1))):
                if crowd.kinds > 2 and is_star(web):
                    continue
                for run in (some_run(web, crowd.kinds), some_standing_run(web, crowd), Run.level(web, crowd.kinds)):
                    stand = stands(run, crowd)
                    back = backwards(run, crowd)
                    self.assertIs(table_in(web, lasting_shares(run, crowd)) is not None, stand)
                    self.assertEqual(back, run if stand else None)
                    seen.add((crowd.kinds, stand))
                self.assertTrue(always_stands(web, crowd.kinds))
        self.assertEqual(seen, {(2, True), (3, True), (3, False)})

    def test_stars_need_not_stand(self):
        web, crowd = Web.star(4), Crowd((2, 1, 1))
        run = turning_run(web, crowd)
        self.assertFalse(stands(run, crowd) or always_stands(web, 3))
        self.assertIsNotNone(backwards(run, crowd))

    def test_spun_runs_have_product_shares_everywhere(self):
        for web in some_webs(4) + [Web.ring(5)]:
            for crowd in (Crowd((web.size - 1, 1)), Crowd((web.size - 2, 1, 1))):
                run, table = spun_run(web, crowd.kinds)
                self.assertTrue(is_lasting(run, local_shares(table, crowd)))
        for web in loose_threefold():
            crowd = Crowd((web.size - 2, 2))
            run, table = spun_run(web, 2)
            self.assertEqual(lasting_shares(run, crowd), local_shares(table, crowd))
            arbitrary = some_run(web, 2)
            if not stands(arbitrary, crowd):
                self.assertIsNone(table_in(web, lasting_shares(arbitrary, crowd)))

    def test_exchanges_over_ties_that_flow(self):
        # Kinds at two places that such ties join change no chance.
        for web in loose_threefold():
            crowd = Crowd((web.size - 2, 2))
            run, table = spun_run(web, 2)
            shares = local_shares(table, crowd)
            for piece in flow_pieces(run, table):
                for u, v in combinations(piece, 2):
                    for word in word_chances(shares):
                        self.assertEqual(shares.ratio_at(word, u, v), 1)

    def test_even_where_such_ties_join_all_places(self):
        seen = set()
        for web in [Web.ring(5), Web.ring(6), Web.ring(7)] + loose_threefold():
            for seed in (1, 2):
                run, table = spun_run(web, 2, seed)
                crowd = Crowd((web.size - 2, 2))
                if len(flow_pieces(run, table)) == 1:
                    self.assertTrue(is_even(run, crowd))
                seen.add((len(flow_pieces(run, table)) == 1, is_even(run, crowd)))
        self.assertEqual(seen, {(True, True), (False, False)})

    def test_the_row_of_three(self):
        # [105]: even, not standing, and its backwards is a run.
        one, zero = [[0, 1, -1], [-1, 0, 1], [1, -1, 0]], [[0] * 3] * 3
        back = [[-entry for entry in row] for row in one]
        run = run_of(Web.row(3), Lean(3, 3, [one, zero, back]))
        crowd = Crowd((1, 1, 1))
        self.assertTrue(is_even(run, crowd))
        self.assertFalse(stands(run, crowd))
        self.assertIsNotNone(backwards(run, crowd))
