"""[84], [85]: one-table runs, when they are even, and runs across."""

import unittest
from itertools import combinations, permutations, product

from steprows.arrows import Arrows, arrow_case
from steprows.crowds import Crowd, exchanged, words_of
from steprows.evens import is_even
from steprows.leans import lean_of
from steprows.onetable import OneTable, across, four_cases, read_across
from steprows.ratios import Ratio
from steprows.runs import Run
from steprows.shares import Shares
from steprows.standing import is_lasting, stands
from steprows.webs import Web
from tests.common import Numbers, all_ratios, fraction, renamed, small_crowds, some_webs, told

HALF = Ratio(1, 2)
RATES = ((0, 2), (1, 0))


def speeds_by(web, lean, numbers):
    """Speeds with told differences, each with an arbitrary part that is the same both ways."""
    found = []
    for tie in web.ties:
        level = numbers.ratio()
        more = lean[tie]
        found.append((level + more, level) if more.top > 0 else (level, level - more))
    return found


def rates_by(kinds, lean, numbers):
    """Rates of kinds with told differences; where they are 0, both rates may be 0."""
    rates = [[Ratio(0)] * kinds for _ in range(kinds)]
    for a, b in combinations(range(kinds), 2):
        level = Ratio(numbers.below(3))
        more = lean[a, b]
        rates[a][b] = level + more if more.top > 0 else level
        rates[b][a] = level if more.top > 0 else level - more
    return rates


def some_speeds(web, numbers):
    """Speeds of several sorts: without a lean, any, running round, and differences where the web allows them."""
    span = [Ratio(numbers.below(5)) for _ in range(web.size)]
    sorts = [
        {tie: Ratio(0) for tie in web.ties}, {tie: numbers.ratio() - numbers.ratio() for tie in web.ties},
        {(u, v): span[u] - span[v] for u, v in web.ties},
    ]
    if len(web) == web.size and web.along is not None:
        steps = list(zip(web.along, web.along[1:] + web.along[:1]))
        sorts.append({tie: Ratio(3) if tie in steps else Ratio(-3) for tie in web.ties})
    # A place near all others against the rest is a difference on every join.
    for place in range(web.size):
        if len(web.near(place)) == web.size - 1:
            sorts.append({(u, v): Ratio((u == place) - (v == place)) for u, v in web.ties})
    return [speeds_by(web, lean, numbers) for lean in sorts]


def some_rates(crowd, numbers):
    """Rates of several sorts: without a lean, any, differences, balanced."""
    kinds = crowd.kinds
    pairs = list(combinations(range(kinds), 2))
    span = [Ratio(numbers.below(5)) for _ in range(kinds)]
    sorts = [
        {pair: Ratio(0) for pair in pairs}, {pair: numbers.ratio() - numbers.ratio() for pair in pairs},
        {(a, b): span[a] - span[b] for a, b in pairs},
    ]
    if kinds == 3:
        x, y, z = crowd.counts
        sorts.append({(0, 1): Ratio(z), (0, 2): Ratio(-y), (1, 2): Ratio(x)})
    return [rates_by(kinds, lean, numbers) for lean in sorts]


def some_one_tables(web, crowd, seed=1):
    numbers = Numbers(seed)
    return [
        OneTable(web, speeds, rates)
        for speeds in some_speeds(web, numbers) for rates in some_rates(crowd, numbers)
    ]


def cases_by_words(one, crowd):
    """The four cases of [84], each told anew."""
    size, kinds = one.web.size, one.kinds
    places = {(u, v): 0 for u, v in product(range(size), repeat=2)}
    for (u, v), (there, back) in zip(one.web.ties, one.speeds):
        places[u, v], places[v, u] = fraction(there) - fraction(back), fraction(back) - fraction(there)
    d = {(a, b): fraction(one.rates[a][b]) - fraction(one.rates[b][a]) for a, b in product(range(kinds), repeat=2)}
    place_balanced = not any(sum(places[u, v] for v in range(size)) for u in range(size))
    kind_balanced = not any(sum(k * d[a, b] for b, k in enumerate(crowd.counts)) for a in range(kinds))
    place_difference = all(places[u, v] + places[v, s] == places[u, s] for u, v, s in product(range(size), repeat=3))
    kind_difference = all(d[a, b] + d[b, c] == d[a, c] for a, b, c in product(range(kinds), repeat=3))
    return (
        not any(places.values()), not any(d.values()), place_balanced and kind_difference,
        kind_balanced and place_difference,
    )


def linked_rates(size, seed):
    """A table of rates by which each two kinds that follow one another hang together, with gaps between others."""
    numbers = Numbers(seed)
    rates = [[0] * size for _ in range(size)]
    for a, b in permutations(range(size), 2):
        if numbers.below(2) or b == a + 1:
            rates[a][b] = numbers.ratio()
    return rates


class TestMaking(unittest.TestCase):

    def test_attributes(self):
        one = OneTable(Web.row(3), [[0, 2], (HALF, Ratio(3))], [(0, 2), [HALF, 0]])
        self.assertEqual((one.web, one.kinds), (Web.row(3), 2))
        self.assertEqual((one.speeds, one.rates), (((0, 2), (HALF, 3)), ((0, 2), (HALF, 0))))
        self.assertTrue(all_ratios(one.speeds) and all_ratios(one.rates))
        # All rates of kinds may be 0.
        self.assertEqual(OneTable(Web.row(3), [(1, 0)] * 2, [[0] * 6] * 6).kinds, 6)

    def test_what_is_passed_is_not_kept(self):
        speeds, rates = [[1, 0], [0, 1]], [[0, 2], [1, 0]]
        one = OneTable(Web.row(3), speeds, rates)
        speeds[0][0], rates[0][1] = 9, 9
        self.assertEqual((one.speeds, one.rates), (((1, 0), (0, 1)), ((0, 2), (1, 0))))

    def test_wrong_speeds(self):
        good = (1, 0)
        for speeds, place in [
            (None, -1), ("ab", -1), ([good], -1), ([good] * 3, -1), ([good, None], 1), ([5, None], 0),
            ([good, (1,)], 1), ([good, (1, 2, 3)], 1), ([good, (0, 0)], 1), ([(0, Ratio(0)), 5], 0),
            ([good, (2, -1)], 1), ([good, (-1, 2)], 1), ([good, (Ratio(-1, 2), 1)], 1), ([good, ("1", 1)], 1),
            ([good, (1, 1.0)], 1), ([good, "11"], 1),
        ]:
            for rates in (None, RATES):
                self.assertEqual(told(OneTable, Web.row(3), speeds, rates), ("BadTable", place), speeds)

    def test_wrong_rates(self):
        for rates in [
            None, "ab", [], [[0]], [[0] * 7] * 7, [[0, 1]], [[0, 1], [1]], [[0, 1], [1, 0, 1]], [[0, 1], None],
            [[0, -1], [1, 0]], [[0, 1], [Ratio(-1, 2), 0]], [[1, 1], [1, 0]], [[0, 1], [1, 1]], [[0, "1"], [1, 0]],
            [[0, 1], [1.0, 0]], [[0, 0, 0], [0, 0, 0], [0, 0, 1]],
        ]:
            self.assertEqual(told(OneTable, Web.row(3), [(1, 0), (0, 1)], rates), ("BadNumber", "rates"), rates)


class TestRun(unittest.TestCase):

    def test_rates(self):
        for web in some_webs(4):
            for one in some_one_tables(web, Crowd((2, 1, 1))):
                run = one.as_run()
                self.assertIsInstance(run, Run)
                self.assertEqual((run.web, run.kinds), (web, 3))
                lean = lean_of(run)
                for ((u, v), (there, back)), a, b in product(zip(web.ties, one.speeds), range(3), range(3)):
                    expected = there * one.rates[a][b] + back * one.rates[b][a]
                    self.assertEqual((run.rate(u, v, a, b), run.rate(v, u, b, a)), (expected, expected))
                    self.assertEqual(lean.at(u, v, a, b), (there - back) * (one.rates[a][b] - one.rates[b][a]))
        run = OneTable(Web.row(3), ((2, 3), (5, 0)), ((0, 7), (11, 0))).as_run()
        self.assertEqual(run, Run(Web.row(3), 2, [[[0, 47], [43, 0]], [[0, 35], [55, 0]]]))

    def test_told_arrows(self):
        for web in some_webs(4):
            numbers = Numbers(len(web))
            rates = [[0, 2, 3], [1, 0, HALF], [1, 5, 0]]
            arrows = [(u, v, numbers.ratio()) if numbers.below(2) else (v, u, numbers.ratio()) for u, v in web.ties]
            speeds = [(speed, 0) if u < v else (0, speed) for u, v, speed in arrows]
            self.assertEqual(OneTable(web, speeds, rates).as_run(), Arrows(web, arrows, rates).as_run())


class TestFourCases(unittest.TestCase):

    def test_against_all_words(self):
        seen = set()
        for size, crowds in ((3, small_crowds(3)), (4, [Crowd((2, 2)), Crowd((2, 1, 1)), Crowd((1, 2, 1))])):
            for web in some_webs(size):
                for crowd in crowds:
                    for one in some_one_tables(web, crowd, seed=size):
                        cases = four_cases(one, crowd)
                        self.assertIsInstance(cases, tuple)
                        self.assertTrue(all(case is True or case is False for case in cases))
                        self.assertEqual(cases, cases_by_words(one, crowd))
                        self.assertIs(is_even(one.as_run(), crowd), any(cases))
                        self.assertIs(is_lasting(one.as_run(), Shares.even(crowd)), any(cases))
                        seen.add(cases)
        for number in range(4):
            # Each case is met without the others.
            self.assertIn(tuple(case == number for case in range(4)), seen)
        self.assertIn((False,) * 4, seen)
        self.assertIn((True,) * 4, seen)

    def test_by_the_crowd(self):
        rates = rates_by(3, {(0, 1): Ratio(1), (0, 2): Ratio(-1), (1, 2): Ratio(2)}, Numbers())
        one = OneTable(Web.star(4), [(2, 1)] * 3, rates)
        self.assertEqual(four_cases(one, Crowd((2, 1, 1))), (False, False, False, True))
        self.assertEqual(four_cases(one, Crowd((1, 2, 1))), (False,) * 4)

    def test_a_difference_is_asked_at_all_pairs(self):
        # 1 along each tie of a row is a difference at the ties, but not at the non-tie.
        balanced = rates_by(3, {(0, 1): Ratio(1), (0, 2): Ratio(-1), (1, 2): Ratio(1)}, Numbers())
        row = OneTable(Web.row(3), [(1, 0), (1, 0)], balanced)
        self.assertEqual(four_cases(row, Crowd((1, 1, 1))), (False,) * 4)
        bent = OneTable(Web.row(3), [(1, 0), (0, 1)], balanced)
        self.assertEqual(four_cases(bent, Crowd((1, 1, 1))), (False, False, False, True))
        self.assertEqual([is_even(one.as_run(), Crowd((1, 1, 1))) for one in (row, bent)], [False, True])

    def test_arrows_one_way_round_a_ring(self):
        seen = set()
        for crowd in (Crowd((2, 2)), Crowd((2, 1, 1)), Crowd((1, 2, 1))):
            tables = [
                [[rate + (1 if a != b else 0) for b, rate in enumerate(row)] for a, row in enumerate(rates)]
                for rates in some_rates(crowd, Numbers(3))
            ]
            if crowd.kinds == 3:
                x, y, z = crowd.counts
                tables.append([[0, 2 ** z, 1], [1, 0, 2 ** x], [2 ** y, 1, 0]])
            for web, rates in product((Web.ring(4), renamed(Web.ring(4), (2, 0, 3, 1))), tables):
                steps = list(zip(web.along, web.along[1:] + web.along[:1]))
                arrows = Arrows(web, [tie + (3,) if tie in steps else tie[::-1] + (3,) for tie in web.ties], rates)
                self.assertIs(arrows.is_one_way(), True)
                one = OneTable(web, [(3, 0) if tie in steps else (0, 3) for tie in web.ties], rates)
                self.assertEqual(one.as_run(), arrows.as_run())
                even, case = is_even(one.as_run(), crowd), arrow_case(arrows, crowd)
                seen.add((even, case))
                self.assertIs(even, any(four_cases(one, crowd)))
                self.assertIs(even, cases_by_words(one, crowd)[2])
                self.assertIs(stands(one.as_run(), crowd), case in (1, 4))
        self.assertEqual({even for even, _ in seen}, {True, False})
        self.assertEqual({case for _, case in seen}, {0, 1, 4})

    def test_unfit(self):
        one = OneTable(Web.row(3), [(1, 0), (0, 1)], RATES)
        for crowd in (Crowd((2, 2)), Crowd((1, 1, 1)), Crowd((3,)), Crowd((1, 1))):
            self.assertEqual(told(four_cases, one, crowd), ("Unfit",))

    def test_example(self):
        one = OneTable(Web.ring(4), ((1, 0), (0, 1), (1, 0), (1, 0)), ((0, 2), (1, 0)))
        self.assertEqual(four_cases(one, Crowd((2, 2))), (False, False, True, False))


class TestAcross(unittest.TestCase):

    def test_webs_speeds_and_rates(self):
        for size in (3, 4, 5, 6):
            for seed, web in enumerate(some_webs(size)):
                numbers = Numbers(seed)
                speeds = [(numbers.ratio(), Ratio(numbers.below(2))) for _ in web.ties]
                one = OneTable(web, speeds, linked_rates(size, seed))
                turned = across(one)
                self.assertIsInstance(turned, OneTable)
                self.assertEqual((turned.web.size, turned.kinds), (size, size))
                for a, b in combinations(range(size), 2):
                    there, back = one.rates[a][b], one.rates[b][a]
                    self.assertIs((a, b) in turned.web, bool(there) or bool(back))
                    if (a, b) in turned.web:
                        self.assertEqual(turned.speeds[turned.web.number_of(a, b)], (there, back))
                for u, v in permutations(range(size), 2):
                    speed = Ratio(0)
                    if (u, v) in web:
                        speed = one.speeds[web.number_of(u, v)][0 if u < v else 1]
                    self.assertEqual(turned.rates[u][v], speed)
                again = across(turned)
                self.assertEqual((again.web, again.speeds, again.rates), (one.web, one.speeds, one.rates))

    def test_the_same_steps(self):
        for size in (3, 4):
            for seed, web in enumerate(some_webs(size)):
                numbers = Numbers(seed)
                one = OneTable(web, [(numbers.ratio(), 0) for _ in web.ties], linked_rates(size, seed))
                run, turned = one.as_run(), across(one).as_run()
                for word in words_of(Crowd([1] * size)):
                    read = read_across(word)
                    for u, v in combinations(range(size), 2):
                        a, b = word[u], word[v]
                        rate = run.rate(u, v, a, b) if (u, v) in web else Ratio(0)
                        other = turned.rate(a, b, u, v) if (a, b) in turned.web else Ratio(0)
                        self.assertEqual(rate, other)
                        self.assertEqual(read_across(exchanged(word, u, v)), exchanged(read, a, b))

    def test_one_rate_makes_a_tie(self):
        one = OneTable(Web.row(3), [(1, 2), (3, 4)], [[0, 0, 0], [5, 0, 0], [0, 6, 0]])
        turned = across(one)
        self.assertEqual((turned.web, turned.speeds), (Web.row(3), ((0, 5), (0, 6))))
        self.assertEqual(turned.rates, ((0, 1, 0), (2, 0, 3), (0, 4, 0)))
        self.assertTrue(all_ratios(turned.rates) and all_ratios(turned.speeds))

    def test_wrong_ones(self):
        apart = [[0, 1, 0, 0], [0, 0, 0, 0], [0, 0, 0, 0], [0, 0, 1, 0]]
        self.assertEqual(told(across, OneTable(Web.row(4), [(1, 0)] * 3, apart)), ("BadWeb", -2))
        self.assertEqual(told(across, OneTable(Web.ring(3), [(1, 0)] * 3, [[0] * 3] * 3)), ("BadWeb", -2))
        self.assertEqual(told(across, OneTable(Web.row(3), [(1, 0)] * 2, apart)), ("Unfit",))
        self.assertEqual(told(across, OneTable(Web.row(5), [(1, 0)] * 4, apart)), ("Unfit",))
        self.assertEqual(told(across, OneTable(Web.row(3), [(1, 0)] * 2, RATES)), ("Unfit",))

    def test_words_read_across(self):
        self.assertEqual(read_across([2, 0, 1]), (1, 2, 0))
        for size in (3, 4, 6):
            for word in list(permutations(range(size)))[::7]:
                read = read_across(word)
                self.assertIsInstance(read, tuple)
                self.assertTrue(all(word[read[a]] == a for a in range(size)))
                self.assertEqual(read_across(read), word)

    def test_wrong_words(self):
        for word, place in [
            (None, -1), ("012", -1), ((0, 1), -1), ((), -1), (tuple(range(7)), -1), ((9, 9), -1), ((0, 3, 3), 1),
            ((0, 0, 9), 1), ((0, 1, 1), 2), ((-1, 0, 0), 0), ((0, 1, "2"), 2), ((0, Ratio(1), 2), 1),
            ((2, 1, 0, 4), 3), ((0, 1, 2, 3, 4, 6), 5), ((0, None, 5), 1),
        ]:
            self.assertEqual(told(read_across, word), ("BadWord", place), word)
