"""Exact fractions."""

from math import gcd

from steprows.errors import BadNumber


def is_int(thing):
    """True for an integer; True and False are none."""
    return isinstance(thing, int) and not isinstance(thing, bool)


def is_ratio(thing):
    """True for what is accepted as a ratio: a Ratio or an integer."""
    return isinstance(thing, Ratio) or is_int(thing)


class Ratio:
    """The fraction top/bottom in lowest terms, the bottom positive."""

    def __init__(self, top, bottom=1):
        self.top, self.bottom = Ratio.lowest(top, bottom)

    @staticmethod
    def lowest(top, bottom):
        """The pair (top, bottom) of the fraction in lowest terms."""
        if not is_int(top):
            raise BadNumber("top")
        if not is_int(bottom) or bottom == 0:
            raise BadNumber("bottom")
        shared = gcd(top, bottom)
        if bottom < 0:
            shared = -shared
        return (top // shared, bottom // shared)

    def __add__(self, other):
        if not is_ratio(other):
            return NotImplemented
        more = ratio_of(other)
        return Ratio(self.top * more.bottom + more.top * self.bottom, self.bottom * more.bottom)

    def __radd__(self, other):
        return self + other

    def __sub__(self, other):
        if not is_ratio(other):
            return NotImplemented
        return self + -ratio_of(other)

    def __rsub__(self, other):
        return -self + other

    def __mul__(self, other):
        if not is_ratio(other):
            return NotImplemented
        factor = ratio_of(other)
        return Ratio(self.top * factor.top, self.bottom * factor.bottom)

    def __rmul__(self, other):
        return self * other

    def __neg__(self):
        return Ratio(-self.top, self.bottom)

    def __eq__(self, other):
        if isinstance(other, Ratio):
            return self.top == other.top and self.bottom == other.bottom
        return is_int(other) and self.bottom == 1 and self.top == other

    def __bool__(self):
        return bool(self.top != 0)

    def over(self, other):
        """This ratio divided by the other one."""
        if not is_ratio(other) or other == 0:
            raise BadNumber("other")
        return self * ratio_of(other).inverse()

    def inverse(self):
        """1 divided by this ratio."""
        if self.top == 0:
            raise BadNumber("top")
        return Ratio(self.bottom, self.top)

    def to_power(self, number):
        """This ratio to a power from -40 to 40."""
        if not is_int(number) or number < -40 or number > 40:
            raise BadNumber("number")
        if number < 0 and self.top == 0:
            raise BadNumber("number")
        base = self
        if number < 0:
            base = self.inverse()
        power = Ratio(1)
        for _ in range(abs(number)):
            power = power * base
        return power

    def told(self):
        """The ratio as a string, such as 3/2 or 4."""
        if self.bottom == 1:
            return str(self.top)
        return f"{self.top}/{self.bottom}"


def ratio_of(thing):
    """The Ratio that is equal to a Ratio or an integer."""
    if isinstance(thing, Ratio):
        return thing
    if not is_int(thing):
        raise BadNumber("thing")
    return Ratio(thing)


def sum_over(ratios):
    """The sum of a list of ratios; 0 if there are none."""
    total = Ratio(0)
    for one in ratios:
        total = total + one
    return total


def product_over(ratios):
    """The product of a list of ratios; 1 if there are none."""
    product = Ratio(1)
    for one in ratios:
        product = product * one
    return product


def whole(row):
    """The integers in the proportions of the row, without a common divisor."""
    ratios = [ratio_of(thing) for thing in row]
    bottom = 1
    for one in ratios:
        bottom = bottom * one.bottom // gcd(bottom, one.bottom)
    tops = [one.top * (bottom // one.bottom) for one in ratios]
    shared = 0
    for top in tops:
        shared = gcd(shared, top)
    # A row of zeros has no divisor of its own to be freed from.
    if shared == 0:
        return tuple(tops)
    return tuple([top // shared for top in tops])
