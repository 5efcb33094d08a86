"""Exact rational numbers."""

from math import gcd

from certsums.errors import DivisionByZero
from certsums.intlists import power_of, total_of


class Fraction:
    """A rational number in lowest terms, with a positive denominator."""

    def __init__(self, num, den=1):
        if den == 0:
            raise DivisionByZero("the denominator of a fraction is zero")
        common = gcd(num, den)
        if den < 0:
            common = -common
        self.num = num // common
        self.den = den // common

    def __eq__(self, other):
        return isinstance(other, Fraction) and self.num == other.num and self.den == other.den

    def __add__(self, other):
        common = gcd(self.den, other.den)
        scale = other.den // common
        num = self.num * scale + other.num * (self.den // common)
        # The numerator can share with the new denominator only what the old ones share.
        shared = gcd(num, common)
        return _in_lowest_terms(num // shared, self.den // shared * scale)

    def __sub__(self, other):
        return self + -other

    def __mul__(self, other):
        left = gcd(self.num, other.den)
        right = gcd(other.num, self.den)
        num = (self.num // left) * (other.num // right)
        return _in_lowest_terms(num, (self.den // right) * (other.den // left))

    def __neg__(self):
        return _in_lowest_terms(-self.num, self.den)

    @property
    def is_zero(self):
        """Whether the number is 0."""
        return self.num == 0

    @property
    def is_whole(self):
        """Whether the number is whole."""
        return self.den == 1

    def over(self, other):
        """This number divided by another one."""
        if other.is_zero:
            raise DivisionByZero("a fraction is divided by zero")
        return self * Fraction(other.den, other.num)

    def power(self, exponent):
        """This number to a whole exponent, 1 for the exponent 0."""
        if exponent < 0 and self.is_zero:
            raise DivisionByZero("zero has no power with a negative exponent")
        if exponent < 0:
            return Fraction(self.den, self.num).power(-exponent)
        return _in_lowest_terms(power_of(self.num, exponent), power_of(self.den, exponent))

    def sign(self):
        """-1, 0 or 1."""
        if self.num == 0:
            return 0
        return 1 if self.num > 0 else -1

    def floor(self):
        """The greatest whole number that is not greater."""
        return self.num // self.den


def _in_lowest_terms(num, den):
    """The fraction of two numbers that are in lowest terms already, which saves a slow search for divisors."""
    made = Fraction(0)
    made.num = num
    made.den = den
    return made


def sum_of(fractions):
    """The sum of a list of fractions."""
    return total_of(fractions, Fraction(0))


def product_of(fractions):
    """The product of a list of fractions."""
    found = Fraction(1)
    for fraction in fractions:
        found = found * fraction
    return found
