"""[47] to [49]: three-sums, four-sums and one-means, and what they tell."""

import unittest
from fractions import Fraction
from itertools import combinations, permutations, product

from steprows.crowds import Crowd, exchanged, words_in, words_of
from steprows.forms import OrderForm, ProductForm
from steprows.pairs import PairSum, of_places
from steprows.ratios import Ratio
from steprows.small import four_sum, is_single, one_mean, singles, small_fault, three_sum, vanishes
from steprows.webs import Web
from tests.common import BIG_CROWD, Numbers, all_ratios, fraction, pair_value, rank, small_crowds, some_pairs, told

CROWDS = small_crowds(3) + small_crowds(4) + [Crowd((3, 2)), Crowd((2, 2, 1)), Crowd((4, 1)), Crowd((2, 1, 1, 1))]


def some_spots(size, kinds, seed=1):
    numbers = Numbers(seed)
    return [[numbers.ratio() - numbers.ratio() for _ in range(kinds)] for _ in range(size)]


def one_entry(size, kinds, pair, a, b, entry=1):
    """The pair sum with just one entry unlike 0."""
    tables = [[[0] * kinds for _ in range(kinds)] for _ in combinations(range(size), 2)]
    tables[list(combinations(range(size), 2)).index(pair)][a][b] = entry
    return PairSum(size, kinds, tables)


def of_places_at_few(size, kinds, spots):
    """A pair sum with the values of of_places, but other entries: all spots stand in the pairs of place 0."""
    tables = []
    for u, v in combinations(range(size), 2):
        tables.append([[
            (spots[v][b] + (spots[0][a] if v == 1 else 0)) if u == 0 else 0 for b in range(kinds)
        ] for a in range(kinds)])
    return PairSum(size, kinds, tables)


def alike_ones(crowd):
    """A pair sum with entries only for kinds that no word has at two places."""
    span = range(crowd.kinds)
    return PairSum(crowd.size, crowd.kinds, [
        [[7 + u if a == b and crowd.counts[a] == 1 else 0 for b in span] for a in span]
        for u, v in combinations(range(crowd.size), 2)
    ])


def level_spots(crowd):
    """Spots y_u + z_a whose one-place sum is 0 on the crowd, but not on all words."""
    by_place = [Fraction(2 * u + 1, 3) for u in range(crowd.size)]
    by_kind = [Fraction(a * a) for a in range(crowd.kinds)]
    by_kind[0] = -(sum(by_place) + sum(k * z for k, z in zip(crowd.counts[1:], by_kind[1:]))) / crowd.counts[0]
    spots = [[y + z for z in by_kind] for y in by_place]
    return [[Ratio(spot.numerator, spot.denominator) for spot in row] for row in spots]


def unlike_ones(crowd):
    """The sum of y_u + y_v over unlike kinds at u and v, less the one-place sum that it is on the crowd."""
    size, kinds = crowd.size, crowd.kinds
    heights = [Ratio(u * u + 1) for u in range(size)]
    unlike = PairSum(size, kinds, [
        [[heights[u] + heights[v] if a != b else 0 for b in range(kinds)] for a in range(kinds)]
        for u, v in combinations(range(size), 2)
    ])
    return unlike - of_places(size, kinds, [[height * (size - count) for count in crowd.counts] for height in heights])


def hidden_zeros(crowd):
    """Pair sums that are 0 on each word of the crowd, though their entries are not."""
    size, kinds = crowd.size, crowd.kinds
    spots = some_spots(size, kinds)
    return [
        PairSum.nothing(size, kinds), of_places(size, kinds, spots) - of_places_at_few(size, kinds, spots),
        alike_ones(crowd), of_places_at_few(size, kinds, level_spots(crowd)),
        of_places(size, kinds, level_spots(crowd)) * 5 + alike_ones(crowd),
        unlike_ones(crowd),
    ]


def four_sum_by_words(pairs, places, kinds):
    """The pair sums at four words that differ only at two of the places each, by turns of both exchanges."""
    u, v, s, t = places
    a, b, c, e = kinds
    total = Fraction(0)
    for (first, second), one in (((a, b), 1), ((b, a), -1)):
        for (third, fourth), two in (((c, e), 1), ((e, c), -1)):
            stand = {u: first, v: second, s: third, t: fourth}
            word = [stand.get(place, 0) for place in range(pairs.size)]
            total += one * two * pair_value(pairs, word)
    return total


def is_one_place(pairs, crowd):
    """Whether numbers G_u(a) as in [49] exist, one equation for each word."""
    rows = []
    for word in words_of(crowd):
        rows.append([int(word[u] == a) for u in range(crowd.size) for a in range(crowd.kinds)])
    return rank(rows) == rank([row + [pair_value(pairs, word)] for row, word in zip(rows, words_of(crowd))])


def small_sum(pairs, crowd, fault):
    """The sum that a fault names; the crowd bears it."""
    name, places, kinds = fault
    if name == "one":
        return one_mean(pairs, crowd, places[0], kinds[0])
    if not crowd.bears(kinds):
        return Ratio(0)
    return {"three": three_sum, "four": four_sum}[name](pairs, places, kinds)


def borne_sums(pairs, crowd):
    """The three-sums for three places, for more the four-sums that the crowd bears, but for their signs."""
    if crowd.size == 3:
        return [three_sum(pairs, (0, 1, 2), row) for row in combinations(range(crowd.kinds), 3)]
    two_kinds, two_places = list(combinations(range(crowd.kinds), 2)), list(combinations(range(crowd.size), 2))
    rows = [one + other for one, other in product(two_kinds, repeat=2) if crowd.bears(one + other)]
    corners = [one + other for one, other in product(two_places, repeat=2) if len(set(one + other)) == 4]
    return [four_sum(pairs, places, row) for places in corners for row in rows]


class TestThreeSums(unittest.TestCase):

    def test_formula(self):
        pairs = some_pairs(4, 4)
        q = pairs.at
        for (u, v, s), (a, b, c) in product(permutations(range(4), 3), permutations(range(4), 3)):
            expected = Ratio(0)
            for y, z in ((u, v), (v, s), (s, u)):
                expected += q(y, z, a, b) + q(y, z, b, c) + q(y, z, c, a)
                expected -= q(y, z, b, a) + q(y, z, c, b) + q(y, z, a, c)
            found = three_sum(pairs, [u, v, s], [a, b, c])
            self.assertEqual(found, expected)
            self.assertIsInstance(found, Ratio)
            self.assertEqual(three_sum(pairs, (v, u, s), (a, b, c)), -found)
            self.assertEqual(three_sum(pairs, (u, v, s), (c, b, a)), -found)
        self.assertEqual(three_sum(one_entry(3, 3, (0, 2), 1, 2, 5), (0, 1, 2), (0, 1, 2)), -5)

    def test_wrong_ones(self):
        pairs = some_pairs(4, 3)
        for places, wrong in [
            (None, -1), ("012", -1), ((0, 1), -1), ((0, 1, 2, 3), -1), ((0, 9, 8), 9), ((0, 1, 1), 1), ((0, 1, 0), 0),
            ((4, 0, 0), 4), ((0, "1", 2), "1"), ((-1, 0, 1), -1), ((0, 1, Ratio(2)), Ratio(2)),
        ]:
            self.assertEqual(told(three_sum, pairs, places, None), ("BadPlace", wrong), places)
        for kinds, wrong in [
            (None, -1), ("012", -1), ((0, 1), -1), ((0, 1, 2, 0), -1), ((0, 3, 4), 3), ((0, 1, 1), 1), ((0, 1, 0), 0),
            ((2, 2, 9), 2), ((-1, 0, 0), -1), ((0, 1, "2"), "2"),
        ]:
            self.assertEqual(told(three_sum, pairs, (0, 1, 2), kinds), ("BadKind", wrong), kinds)
        self.assertEqual(told(three_sum, some_pairs(3, 2), (0, 1, 2), (0, 1, 2)), ("BadKind", 2))


class TestFourSums(unittest.TestCase):

    def test_formula_and_signs(self):
        pairs = some_pairs(5, 3)
        rows = [row for row in product(range(3), repeat=4) if row[0] != row[1] and row[2] != row[3]]
        for u, v, s, t in list(permutations(range(5), 4))[::7]:
            for a, b, c, e in rows:
                found = four_sum(pairs, [u, v, s, t], [a, b, c, e])
                self.assertEqual(fraction(found), four_sum_by_words(pairs, (u, v, s, t), (a, b, c, e)))
                self.assertIsInstance(found, Ratio)
                for places, kinds in [
                    ((v, u, s, t), (a, b, c, e)), ((u, v, t, s), (a, b, c, e)), ((u, v, s, t), (b, a, c, e)),
                    ((u, v, s, t), (a, b, e, c)),
                ]:
                    self.assertEqual(four_sum(pairs, places, kinds), -found)

    def test_kinds_may_repeat_across(self):
        pairs = one_entry(4, 2, (1, 3), 1, 1)
        self.assertEqual(four_sum(pairs, (0, 1, 2, 3), (0, 1, 0, 1)).told(), "1")
        self.assertEqual(four_sum(pairs, (0, 1, 2, 3), (0, 1, 1, 0)).told(), "-1")
        self.assertEqual(four_sum(pairs, (0, 2, 1, 3), (0, 1, 0, 1)).told(), "0")

    def test_wrong_ones(self):
        pairs = some_pairs(4, 3)
        for places, wrong in [
            (None, -1), ("0123", -1), ((0, 1, 2), -1), ((0, 1, 2, 3, 3), -1), ((0, 9, 8, 1), 9), ((0, 1, 2, 1), 1),
            ((4, 0, 0, 0), 4), ((0, 1, "2", 3), "2"),
        ]:
            self.assertEqual(told(four_sum, pairs, places, None), ("BadPlace", wrong), places)
        for kinds, wrong in [
            (None, -1), ("0101", -1), ((0, 1, 0), -1), ((0, 1, 0, 1, 0), -1), ((3, 3, 0, 0), 3), ((0, 0, 9, 0), 0),
            ((0, 1, 2, 2), 2), ((0, 1, 3, 3), 3), ((0, 1, 9, 8), 9), ((1, 1, 1, 1), 1), ((0, 1, 1, "0"), "0"),
            ((0, -1, 0, 0), -1), ((0, 2, 2, None), None),
        ]:
            self.assertEqual(told(four_sum, pairs, (0, 1, 2, 3), kinds), ("BadKind", wrong), kinds)
        self.assertEqual(told(four_sum, some_pairs(3, 2), (0, 1, 2, 3), (0, 1, 0, 1)), ("BadPlace", 3))
        self.assertEqual(told(four_sum, some_pairs(3, 2), (0, 1, 2), None), ("BadPlace", -1))


class TestOneMeans(unittest.TestCase):

    def test_means_over_words(self):
        for crowd in CROWDS:
            pairs = some_pairs(crowd.size, crowd.kinds)
            for u, a in product(range(crowd.size), range(crowd.kinds)):
                values = [pair_value(pairs, word) for word in words_of(crowd) if word[u] == a]
                found = one_mean(pairs, crowd, u, a)
                self.assertEqual(fraction(found), sum(values) / len(values))
                self.assertIsInstance(found, Ratio)

    def test_wrong_ones(self):
        pairs = some_pairs(4, 3)
        for crowd in (Crowd((2, 2)), Crowd((2, 1)), Crowd((2, 2, 1)), Crowd((1, 1, 1))):
            self.assertEqual(told(one_mean, pairs, crowd, 9, 9), ("Unfit",))
        for u, a, wrong in [
            (4, 9, ("BadPlace", 4)), (-1, 9, ("BadPlace", -1)), ("0", 9, ("BadPlace", "0")), (0, 3, ("BadKind", 3)),
            (3, None, ("BadKind", None)),
        ]:
            self.assertEqual(told(one_mean, pairs, Crowd((2, 1, 1)), u, a), wrong)


class TestZeroOnEachWord(unittest.TestCase):

    def test_against_all_words(self):
        seen = set()
        for crowd in CROWDS:
            size, kinds = crowd.size, crowd.kinds
            zeros = hidden_zeros(crowd)
            others = [zero + more for zero in zeros for more in (
                some_pairs(size, kinds), one_entry(size, kinds, (0, 1), 0, 1), one_entry(size, kinds, (1, 2), 1, 1),
                of_places(size, kinds, some_spots(size, kinds)), of_places(size, kinds, [[1] * kinds] * size),
            )]
            for pairs in zeros + others:
                zero = not any(pair_value(pairs, word) for word in words_of(crowd))
                seen.add((zero, small_fault(pairs, crowd) and small_fault(pairs, crowd)[0]))
                self.assertIs(vanishes(pairs, crowd), zero)
                self.check_fault(pairs, crowd, zero)
            self.assertTrue(all(vanishes(pairs, crowd) for pairs in zeros))
        self.assertEqual(seen, {(True, None), (False, "one"), (False, "three"), (False, "four")})

    def check_fault(self, pairs, crowd, zero):
        fault = small_fault(pairs, crowd)
        if zero:
            self.assertIsNone(fault)
            self.assertFalse(any(borne_sums(pairs, crowd)))
            return
        self.assertIsInstance(fault, tuple)
        name, places, kinds = fault
        self.assertTrue(isinstance(places, tuple) and isinstance(kinds, tuple))
        self.assertNotEqual(small_sum(pairs, crowd, fault), 0)
        self.assertEqual((len(places), len(kinds)), {"three": (3, 3), "four": (4, 4), "one": (1, 1)}[name])
        self.assertIs(name == "one", not any(borne_sums(pairs, crowd)))
        self.assertFalse(name == "four" and crowd.size == 3 or name == "three" and crowd.size > 3)

    def test_each_four_sum_is_asked(self):
        # Entries at one pair of places for unlike kinds, each alone, are found.
        for crowd in (Crowd((2, 2)), Crowd((2, 1, 1)), Crowd((2, 2, 1)), Crowd((1, 1, 1, 1))):
            for pair in combinations(range(crowd.size), 2):
                for a, b in product(range(crowd.kinds), repeat=2):
                    if a == b and crowd.counts[a] == 1:
                        continue
                    pairs = one_entry(crowd.size, crowd.kinds, pair, a, b)
                    self.assertEqual(small_fault(pairs, crowd)[0], "four")
                    self.check_fault(pairs, crowd, False)

    def test_a_crowd_that_bears_none(self):
        for crowd in (Crowd((3, 1)), Crowd((1, 3)), Crowd((4, 1)), Crowd((1, 7))):
            pairs = some_pairs(crowd.size, 2)
            self.assertIs(is_single(pairs, crowd), True)
            self.assertEqual(small_fault(pairs, crowd)[0], "one")
        lone = one_entry(4, 2, (0, 2), 1, 1)
        self.assertEqual((vanishes(lone, Crowd((3, 1))), vanishes(lone, Crowd((2, 2)))), (True, False))
        self.assertIsNone(small_fault(lone, Crowd((3, 1))))
        self.assertNotEqual(four_sum(lone, (0, 1, 2, 3), (0, 1, 0, 1)), 0)

    def test_three_places(self):
        pairs = some_pairs(3, 3)
        self.assertEqual(small_fault(pairs, Crowd((1, 1, 1)))[0], "three")
        self.assertEqual(small_fault(some_pairs(3, 2), Crowd((2, 1)))[0], "one")

    def test_many_words(self):
        for zero in hidden_zeros(BIG_CROWD):
            self.assertIs(vanishes(zero, BIG_CROWD), True)
            self.assertIsNotNone(singles(zero, BIG_CROWD))
        pairs = one_entry(8, 6, (6, 7), 4, 5)
        self.assertEqual((vanishes(pairs, BIG_CROWD), is_single(pairs, BIG_CROWD)), (False, False))
        self.assertEqual(small_fault(pairs, BIG_CROWD)[0], "four")
        self.assertNotEqual(small_sum(pairs, BIG_CROWD, small_fault(pairs, BIG_CROWD)), 0)
        lone = one_entry(8, 6, (6, 7), 5, 5)
        self.assertEqual((vanishes(lone, BIG_CROWD), small_fault(lone, BIG_CROWD)), (True, None))

    def test_unfit(self):
        pairs = some_pairs(4, 3)
        for crowd in (Crowd((2, 2)), Crowd((2, 2, 1)), Crowd((1, 1, 1)), Crowd((4,))):
            for call in (is_single, singles, vanishes, small_fault):
                self.assertEqual(told(call, pairs, crowd), ("Unfit",))
                self.assertEqual(told(call, PairSum.nothing(4, 3), crowd), ("Unfit",))


class TestOnePlaceSums(unittest.TestCase):

    def test_against_elimination(self):
        seen = set()
        for crowd in CROWDS:
            size, kinds = crowd.size, crowd.kinds
            ones = [zero + of_places(size, kinds, some_spots(size, kinds, seed)) for seed, zero in
                    enumerate(hidden_zeros(crowd))]
            for pairs in ones + [some_pairs(size, kinds), one_entry(size, kinds, (0, 1), 0, 1)]:
                single = is_one_place(pairs, crowd)
                seen.add(single)
                self.assertIs(is_single(pairs, crowd), single)
                found = singles(pairs, crowd)
                self.assertIs(found is not None, single)
                if single:
                    self.assertFalse(any(borne_sums(pairs, crowd)))
                    self.check_singles(pairs, crowd, found)
        self.assertEqual(seen, {True, False})

    def check_singles(self, pairs, crowd, found):
        self.assertTrue(isinstance(found, tuple) and all_ratios(found))
        self.assertEqual((len(found), {len(row) for row in found}), (crowd.size, {crowd.kinds}))
        for word in words_of(crowd):
            self.assertEqual(sum(fraction(found[u][a]) for u, a in enumerate(word)), pair_value(pairs, word))

    def test_many_words(self):
        spots = some_spots(8, 6)
        found = singles(of_places(8, 6, spots) + alike_ones(BIG_CROWD), BIG_CROWD)
        for word in list(words_in(BIG_CROWD))[::500]:
            expected = sum(fraction(spots[u][a]) for u, a in enumerate(word))
            self.assertEqual(sum(fraction(found[u][a]) for u, a in enumerate(word)), expected)

    def test_three_sums_do_not_decide_for_more_places(self):
        pairs = one_entry(4, 3, (0, 1), 0, 0)
        crowd = Crowd((2, 1, 1))
        self.assertFalse(any(three_sum(pairs, places, (0, 1, 2)) for places in permutations(range(4), 3)))
        self.assertIs(is_single(pairs, crowd), False)
        pairs = of_places(4, 3, some_spots(4, 3)) + alike_ones(crowd)
        self.assertFalse(any(three_sum(pairs, places, (0, 1, 2)) for places in permutations(range(4), 3)))

    def test_product_forms_by_two_exchanges(self):
        web, crowd = Web.row(4), Crowd((2, 1, 1))
        numbers = Numbers(3)
        spots = [numbers.ratios(3) for _ in range(4)]
        orders = [numbers.ratios(3) for _ in range(3)]
        for form, agree in ((ProductForm(web, crowd, spots), True), (OrderForm(web, crowd, spots, orders), False)):
            shares = form.laid()
            answers = [
                shares[word] * shares[exchanged(exchanged(word, u, v), s, t)]
                == shares[exchanged(word, u, v)] * shares[exchanged(word, s, t)]
                for word in words_of(crowd) for u, v, s, t in permutations(range(4), 4)
            ]
            self.assertIs(all(answers), agree)

    def test_example(self):
        pairs = one_entry(4, 2, (0, 1), 0, 0)
        crowd = Crowd((2, 2))
        found = [four_sum(pairs, (0, 2, 1, 3), (0, 1, 0, 1)).told(), one_mean(pairs, crowd, 0, 0).told()]
        self.assertEqual(found + [is_single(pairs, crowd)], ["1", "1/3", False])
