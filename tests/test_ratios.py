"""[3]: ratios."""

import unittest
from fractions import Fraction

from steprows.ratios import Ratio, ratio_of, whole
from steprows.webs import Web
from tests.common import fraction, told

SOME = [Ratio(top, bottom) for top in range(-4, 5) for bottom in (1, 2, 3, 6)]


class TestRatio(unittest.TestCase):

    def test_lowest_terms(self):
        for top, bottom, expected in [
            (6, 4, (3, 2)), (6, -4, (-3, 2)), (-6, -4, (3, 2)), (0, -7, (0, 1)), (0, 5, (0, 1)), (8, 4, (2, 1)),
            (10 ** 12 - 1, 10 ** 11, (10 ** 12 - 1, 10 ** 11)),
        ]:
            ratio = Ratio(top, bottom)
            self.assertEqual((ratio.top, ratio.bottom), expected)
            self.assertEqual(Ratio.lowest(top, bottom), expected)
        self.assertIsInstance(Ratio.lowest(6, 4), tuple)
        self.assertEqual((Ratio(5).top, Ratio(5).bottom), (5, 1))

    def test_wrong_parts(self):
        for make in (Ratio, Ratio.lowest):
            self.assertEqual(told(make, "1", 2), ("BadNumber", "top"))
            self.assertEqual(told(make, Ratio(1), 2), ("BadNumber", "top"))
            self.assertEqual(told(make, 1.0, 0), ("BadNumber", "top"))
            self.assertEqual(told(make, 1, 0), ("BadNumber", "bottom"))
            self.assertEqual(told(make, 1, Ratio(2)), ("BadNumber", "bottom"))
            self.assertEqual(told(make, 1, None), ("BadNumber", "bottom"))

    def test_sums_differences_products(self):
        for one in SOME:
            self.assertEqual(fraction(-one), -fraction(one))
            for other in SOME + list(range(-3, 4)):
                for result, expected in [
                    (one + other, fraction(one) + fraction(other)), (other + one, fraction(one) + fraction(other)),
                    (one - other, fraction(one) - fraction(other)), (other - one, fraction(other) - fraction(one)),
                    (one * other, fraction(one) * fraction(other)), (other * one, fraction(one) * fraction(other)),
                ]:
                    self.assertIsInstance(result, Ratio)
                    self.assertEqual((result.top, result.bottom), (expected.numerator, expected.denominator))

    def test_equality(self):
        self.assertTrue(Ratio(4, 2) == 2)
        self.assertTrue(2 == Ratio(4, 2))
        self.assertTrue(Ratio(2, 4) == Ratio(1, 2))
        self.assertFalse(Ratio(1, 2) == 0)
        self.assertFalse(Ratio(1, 2) == 1)
        self.assertFalse(Ratio(1, 2) == Ratio(1, 3))
        self.assertFalse(Ratio(1, 3) == Ratio(2, 3))
        self.assertFalse(Ratio(2) == 3)
        self.assertTrue(Ratio(1, 2) != Ratio(1, 3))
        for other in ("1/2", (1, 2), None, Web.row(3), [1], 0.5):
            self.assertIs(Ratio(1, 2) == other, False)
        for other in (1.0, "1", (1, 1), [1]):
            self.assertIs(Ratio(1) == other, False)

    def test_truth(self):
        self.assertFalse(Ratio(0, 3))
        self.assertTrue(Ratio(-1, 3))
        self.assertTrue(Ratio(1))

    def test_over(self):
        for one in SOME:
            for other in [1, -2, Ratio(3, 4), Ratio(-5, 2)]:
                result = one.over(other)
                self.assertIsInstance(result, Ratio)
                self.assertEqual(fraction(result), fraction(one) / fraction(other))
        for wrong in (0, Ratio(0), "2", None, 1.5):
            self.assertEqual(told(Ratio(0).over, wrong), ("BadNumber", "other"))

    def test_inverse(self):
        self.assertEqual((Ratio(-2, 3).inverse().top, Ratio(-2, 3).inverse().bottom), (-3, 2))
        self.assertEqual(told(Ratio(0).inverse), ("BadNumber", "top"))

    def test_powers(self):
        for one in (Ratio(2), Ratio(-3, 2), Ratio(1, 7)):
            for number in (-40, -39, -2, -1, 0, 1, 2, 3, 40):
                power = one.to_power(number)
                self.assertIsInstance(power, Ratio)
                self.assertEqual(fraction(power), Fraction(one.top, one.bottom) ** number)
        self.assertEqual(Ratio(0).to_power(0), 1)
        self.assertEqual(Ratio(0).to_power(40), 0)
        for wrong in (-41, 41, "1", None, Ratio(2)):
            self.assertEqual(told(Ratio(2).to_power, wrong), ("BadNumber", "number"))
        self.assertEqual(told(Ratio(0).to_power, -1), ("BadNumber", "number"))

    def test_told(self):
        self.assertEqual([Ratio(*parts).told() for parts in [(3, 2), (-1, 3), (8, 2), (0, 9), (-4, 1)]],
                         ["3/2", "-1/3", "4", "0", "-4"])


class TestRatioFunctions(unittest.TestCase):

    def test_ratio_of(self):
        for thing in (3, -2, 0, Ratio(5, 3)):
            self.assertIsInstance(ratio_of(thing), Ratio)
            self.assertEqual(ratio_of(thing), thing)
        for wrong in ("3", 1.5, None, (1, 2)):
            self.assertEqual(told(ratio_of, wrong), ("BadNumber", "thing"))

    def test_whole(self):
        for row, expected in [
            ([Ratio(1, 2), Ratio(1, 3), 1], (3, 2, 6)), ((4, 6, 0), (2, 3, 0)), ([0, Ratio(0)], (0, 0)),
            ((Ratio(-1, 2), 1), (-1, 2)), ([7], (1,)), ([-7], (-1,)), ((Ratio(4, 3), Ratio(2, 3)), (2, 1)), ([], ()),
        ]:
            result = whole(row)
            self.assertEqual(result, expected)
            self.assertIsInstance(result, tuple)
            self.assertTrue(all(isinstance(number, int) for number in result))

    def test_whole_leaves_its_argument(self):
        row = [Ratio(1, 2), 3]
        whole(row)
        self.assertEqual(row, [Ratio(1, 2), 3])
