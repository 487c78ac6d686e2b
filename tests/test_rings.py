"""[95], [99], [103] to [105]: full runs on rings that stand, that have classes, or neither."""

import unittest
from itertools import permutations, product

from steprows.backs import backwards
from steprows.classes import Classes, class_table, classes_run
from steprows.crowds import Crowd
from steprows.evens import is_even
from steprows.lasting import lasts
from steprows.leans import Lean, run_of
from steprows.lots import all_partings
from steprows.ratios import Ratio
from steprows.rings import classes_of, quad_products, ring_word
from steprows.runs import Run
from steprows.shapes import shape
from steprows.shares import table_in
from steprows.solving import lasting_shares
from steprows.splits import Split
from steprows.standing import quickened, stands
from steprows.tables import RatioTable
from steprows.webs import Web
from tests.common import (
    Numbers, all_ratios, even_run, fraction, kept_table, ring_steps_of, small_crowds, some_classes, some_rows,
    some_run, some_standing_run, some_webs, told,
)
from tests.test_classes import rings


def roomy_ring_cases():
    """Loose rings with roomy crowds."""
    for size, crowds in ((5, (Crowd((3, 2)), Crowd((2, 3)))), (6, (Crowd((2, 2, 2)), Crowd((4, 2)))), (7, (Crowd((3, 2, 2)),))):
        for crowd in crowds:
            for web in rings(size):
                yield web, crowd


def lonely(run, step, a, b, factor):
    """The run with the rate of a at the first place and b at the second one of a step multiplied."""
    p, r = step
    rates = [[list(row) for row in table] for table in run.rates]
    number = run.web.number_of(p, r)
    first, second = (a, b) if p < r else (b, a)
    rates[number][first][second] = rates[number][first][second] * factor
    return Run(run.web, run.kinds, rates)


class TestClassesOf(unittest.TestCase):

    def test_found_again(self):
        for web, crowd in roomy_ring_cases():
            for number, parting in enumerate(all_partings(crowd.kinds)[1:]):
                classes = some_classes(crowd, parting, seed=number + 1)
                run = classes_run(web, classes, some_rows(web, crowd.kinds, seed=number))
                found = classes_of(run, crowd)
                self.assertIsInstance(found, Classes)
                self.assertEqual(found, classes)
                self.assertEqual(ring_word(run, crowd), "classes")
                self.assertFalse(stands(run, crowd))
                self.check_near_ones(run, crowd, web)

    def check_near_ones(self, run, crowd, web):
        # Another rate at any one step, the last one too, spoils the classes.
        for step in (ring_steps_of(web)[0], ring_steps_of(web)[-1]):
            for a, b in permutations(range(crowd.kinds), 2):
                other = lonely(run, step, a, b, Ratio(3, 2))
                self.assertIsNone(classes_of(other, crowd))
                self.assertEqual(ring_word(other, crowd), "neither")

    def test_a_class_of_three_kinds(self):
        crowd = Crowd((2, 2, 2, 2))
        for web in rings(8):
            for parting in all_partings(4)[1:]:
                classes = some_classes(crowd, parting, seed=4)
                run = classes_run(web, classes, some_rows(web, 4))
                self.assertEqual(classes_of(run, crowd), classes)
                self.assertTrue(lasts(run, class_table(web, classes), crowd))
                self.assertEqual(ring_word(quickened(run, 0, web.near(0)[0]), crowd), "neither")

    def test_ratios_that_are_no_classes(self):
        # At each step the same ratios inside the lots and the same leans between them,
        # but the products by the counts are not 1, or two lots have one number.
        for web in rings(6):
            crowd = Crowd((2, 2, 2))
            for inner, leans in ((2, (0, 1)), (1, (0, 0))):
                rates = {}
                for p, r in ring_steps_of(web):
                    table = [[Ratio(0)] * 3 for _ in range(3)]
                    table[0][1], table[1][0] = Ratio(3 * inner), Ratio(3)
                    for a in (0, 1):
                        table[a][2], table[2][a] = Ratio(5 + leans[1]), Ratio(5)
                    rates[p, r] = table
                    rates[r, p] = [list(column) for column in zip(*table)]
                run = Run(web, 3, [rates[tie] for tie in web.ties])
                self.assertIsNone(classes_of(run, crowd))
                self.assertEqual(ring_word(run, crowd), "stands" if inner == 1 else "neither")

    def test_words_against_solved_shares(self):
        seen = set()
        for web in rings(5):
            for crowd in (Crowd((3, 2)), Crowd((2, 3))):
                classes = some_classes(crowd)
                held = classes_run(web, classes, some_rows(web, 2))
                for run in (
                    held, held + some_standing_run(web, crowd), some_run(web, 2), some_standing_run(web, crowd),
                    Run.level(web, 2), quickened(held, *web.ties[-1]), even_run(web, 2), held * 5,
                ):
                    word = ring_word(run, crowd)
                    local = table_in(web, lasting_shares(run, crowd)) is not None
                    self.assertIs(local, word != "neither")
                    self.assertIs(stands(run, crowd), word == "stands")
                    self.assertIs(classes_of(run, crowd) is not None, word == "classes")
                    seen.add(word)
        self.assertEqual(seen, {"stands", "classes", "neither"})

    def test_no_kept_table_lasts_for_neither(self):
        for web, crowd in roomy_ring_cases():
            run = some_run(web, crowd.kinds)
            self.assertEqual(ring_word(run, crowd), "neither")
            for seed in (1, 2):
                self.assertFalse(lasts(run, kept_table(web, crowd, seed), crowd))
            self.assertFalse(lasts(run, RatioTable.even(web, crowd.kinds), crowd))

    def test_wrong_ones_in_order(self):
        part = some_run(Web.row(4), 2, zeros=True)
        for call in (classes_of, ring_word):
            for crowd in (Crowd((3, 2)), Crowd((2, 1, 1)), Crowd((4,))):
                self.assertEqual(told(call, part, crowd), ("Unfit",))
            self.assertEqual(told(call, part, Crowd((3, 1))), ("NotFull",))
            for web in some_webs(4):
                wrong = "NotLoose" if shape(web) == "ring" else "NotRing"
                self.assertEqual(told(call, some_run(web, 2), Crowd((3, 1))), (wrong,))
                self.assertEqual(told(call, some_run(web, 2), Crowd((2, 2))), (wrong,))
            self.assertEqual(told(call, some_run(Web.row(5), 2), Crowd((4, 1))), ("NotRing",))
            self.assertEqual(told(call, some_run(Web.ring(3), 2), Crowd((2, 1))), ("NotLoose",))
            for crowd in (Crowd((4, 1)), Crowd((1, 4))):
                self.assertEqual(told(call, some_run(Web.ring(5), 2), crowd), ("NotRoomy",))
            self.assertEqual(told(call, some_run(Web.ring(5), 3), Crowd((2, 2, 1))), ("NotRoomy",))
            self.assertIsNone(told(call, some_run(Web.ring(5), 2), Crowd((3, 2))))


class TestEvenOnes(unittest.TestCase):

    def test_three_kinds_or_fewer(self):
        seen = set()
        for web, crowd in roomy_ring_cases():
            runs = [some_run(web, crowd.kinds), some_standing_run(web, crowd), even_run(web, crowd.kinds)]
            for seed in (1, 2):
                runs.append(classes_run(web, some_classes(crowd, seed=seed), some_rows(web, crowd.kinds)))
            for run in runs:
                word = ring_word(run, crowd)
                self.assertIs(word == "classes", is_even(run, crowd) and not stands(run, crowd))
                if crowd.kinds == 2:
                    leans = [run.lean(p, r, 0, 1) for p, r in ring_steps_of(web)]
                    self.assertIs(word == "classes", leans[0] != 0 and all(lean == leans[0] for lean in leans))
                seen.add(word)
        self.assertEqual(seen, {"stands", "classes", "neither"})

    def test_four_kinds_are_even_with_ratios_one(self):
        crowd = Crowd((2, 2, 2, 2))
        seen = set()
        for web in rings(8):
            for parting in all_partings(4)[1:]:
                classes = some_classes(crowd, parting)
                run = classes_run(web, classes, some_rows(web, 4))
                flat = all(entry == 1 for row in classes.ratios for entry in row)
                self.assertIs(is_even(run, crowd), flat)
                seen.add(flat)
        self.assertEqual(seen, {True, False})

    def test_pushed_runs(self):
        for web, crowd in roomy_ring_cases():
            classes = some_classes(crowd, seed=5)
            run = classes_run(web, classes, some_rows(web, crowd.kinds))
            split = Split(run, class_table(web, classes))
            low, high = split.ends()
            for x in (Ratio(1, 2), Ratio(-1, 3), Ratio(-1), high * Ratio(9, 10), low * Ratio(9, 10)):
                found = classes_of(split.pushed(x), crowd)
                self.assertEqual((found.parting, found.ratios), (classes.parting, classes.ratios))
                self.assertEqual(found.leans, tuple(lean * x for lean in classes.leans))
            self.assertEqual(ring_word(split.pushed(0), crowd), "stands")

    def test_the_premises_are_needed(self):
        # [105]: a kind that is there once, three or four places.
        for web, crowd in ((Web.ring(5), Crowd((4, 1))), (Web.ring(3), Crowd((2, 1))), (Web.ring(4), Crowd((1, 3)))):
            run = some_run(web, 2)
            self.assertIsNotNone(backwards(run, crowd))
            self.assertFalse(stands(run, crowd))
            leans = [run.lean(p, r, 0, 1) for p, r in ring_steps_of(web)]
            self.assertNotEqual(leans, [leans[0]] * web.size)
        self.assertIsNone(backwards(some_run(Web.ring(5), 2), Crowd((3, 2))))


def quad_run(web, ahead, back):
    """The run with the rates a_i and b_i at the steps."""
    rates = {}
    for (p, r), a, b in zip(ring_steps_of(web), ahead, back):
        rates[p, r] = [[0, b], [a, 0]]
        rates[r, p] = [[0, a], [b, 0]]
    return Run(web, 2, [rates[tie] for tie in web.ties])


def level_quad(web, seed):
    """A run by [104]: t_0 and t_1, a number c, and rates with (t a - b)(1 + 1/t) = c at each step."""
    numbers = Numbers(seed)
    first, second = fraction(numbers.ratio()), fraction(numbers.ratio())
    t = [first, second, 1 / first, 1 / second]
    ahead, back = [], []
    total = fraction(numbers.ratio())
    for one in t:
        less = fraction(numbers.ratio())
        ahead.append((total / (1 + 1 / one) + less) / one)
        back.append(less)
    return quad_run(web, *[[Ratio(x.numerator, x.denominator) for x in row] for row in (ahead, back)]), t


class TestQuads(unittest.TestCase):

    def check_quad(self, web, run):
        found = quad_products(run)
        shares = lasting_shares(run, Crowd((2, 2)))
        table = table_in(web, shares)
        steps = ring_steps_of(web)
        a = [run.rate(p, r, 1, 0) for p, r in steps]
        b = [run.rate(p, r, 0, 1) for p, r in steps]
        self.assertIs(found is None, table is None)
        if found is None:
            return None
        word, t = found
        self.assertIsInstance(found, tuple)
        self.assertTrue(isinstance(t, tuple) and all_ratios(t) and len(t) == 4)
        self.assertIs(word == "stands", stands(run, Crowd((2, 2))))
        self.assertEqual([table.at(p, r, 0, 1) for p, r in steps], list(t))
        if word == "stands":
            self.assertEqual(list(t), [back.over(ahead) for ahead, back in zip(a, b)])
        else:
            self.assertEqual(word, "level")
            self.assertEqual((t[0] * t[2], t[1] * t[3]), (1, 1))
            sums = [(t[i] * a[i] - b[i]) * (t[i].inverse() + 1) for i in range(4)]
            self.assertEqual(sums, [sums[0]] * 4)
        return word

    def test_against_solved_shares(self):
        seen = set()
        for web in rings(4):
            for seed in range(1, 6):
                run, t = level_quad(web, seed)
                self.assertEqual(self.check_quad(web, run), "level")
                self.assertEqual([fraction(one) for one in quad_products(run)[1]], t)
                seen.add(self.check_quad(web, some_run(web, 2, seed)))
                seen.add(self.check_quad(web, some_standing_run(web, Crowd((2, 2)), seed)))
                p, r = web.ties[seed % 4]
                seen.add(self.check_quad(web, quickened(run, p, r)))
        self.assertEqual(seen, {None, "stands"})

    def test_even_ones(self):
        for web in rings(4):
            run = even_run(web, 2)
            self.assertEqual(self.check_quad(web, run), "level")
            self.assertEqual(quad_products(run), ("level", (1, 1, 1, 1)))
            self.assertEqual(quad_products(Run.level(web, 2)), ("stands", (1, 1, 1, 1)))

    def test_stands_comes_first(self):
        # These t have t_0 t_2 = 1 = t_1 t_3, too.
        run = quad_run(Web.ring(4), (1, 1, 2, 1), (2, 1, 1, 1))
        self.assertEqual(quad_products(run), ("stands", (2, 1, Ratio(1, 2), 1)))

    def test_wrong_ones_in_order(self):
        for size, kinds in ((3, 2), (5, 2), (4, 3)):
            self.assertEqual(told(quad_products, some_run(Web.row(size), kinds, zeros=True)), ("Unfit",))
        for web in some_webs(4):
            self.assertEqual(told(quad_products, quad_run_of_zeros(web)), ("NotFull",))
            self.assertEqual(told(quad_products, some_run(web, 2)), None if shape(web) == "ring" else ("NotRing",))


def quad_run_of_zeros(web):
    return Run(web, 2, [[[0, 1], [1, 0]]] * (len(web) - 1) + [[[0, 1], [0, 0]]])


class TestEvenRunOnStar(unittest.TestCase):

    def test_star(self):
        table, zero = [[0, 1, -1], [-1, 0, 2], [1, -2, 0]], [[0] * 3] * 3
        run = run_of(Web.star(4), Lean(4, 3, [table] * 3 + [zero] * 3))
        self.assertTrue(is_even(run, Crowd((2, 1, 1))))
        self.assertFalse(stands(run, Crowd((2, 1, 1))))

    def test_small_crowds_are_told_apart(self):
        # Whatever the crowd, a run on a ring of five or more either raises or has a word.
        web = Web.ring(5)
        for crowd, spare in product(small_crowds(5, (2,)), (False, True)):
            run = some_run(web, 2) if spare else Run.level(web, 2)
            if min(crowd.counts) > 1:
                self.assertEqual(ring_word(run, crowd), "neither" if spare else "stands")
            else:
                self.assertEqual(told(ring_word, run, crowd), ("NotRoomy",))
