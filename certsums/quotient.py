"""Rational functions in one variable."""

from certsums.division import common_divisor, exact, monic
from certsums.errors import DivisionByZero, Pole
from certsums.fraction import Fraction
from certsums.poly import Poly


class Quotient:
    """A numerator over a denominator that is monic and coprime to it."""

    def __init__(self, num, den):
        if den.is_zero:
            raise DivisionByZero("the denominator of a quotient is zero")
        common = common_divisor(num, den)
        lower = exact(den, common)
        self.num = exact(num, common).scaled(Fraction(1).over(lower.lead))
        self.den = monic(lower)

    def __eq__(self, other):
        return isinstance(other, Quotient) and self.num == other.num and self.den == other.den

    def __add__(self, other):
        return Quotient(self.num * other.den + other.num * self.den, self.den * other.den)

    def __sub__(self, other):
        return self + -other

    def __mul__(self, other):
        return Quotient(self.num * other.num, self.den * other.den)

    def __neg__(self):
        return Quotient(-self.num, self.den)

    @property
    def is_zero(self):
        """Whether this is the zero quotient."""
        return self.num.is_zero

    def over(self, other):
        """This quotient divided by another one."""
        if other.is_zero:
            raise DivisionByZero("a quotient is divided by the zero quotient")
        return Quotient(self.num * other.den, self.den * other.num)

    def shifted(self, step):
        """The quotient at k + step."""
        return Quotient(self.num.shifted(step), self.den.shifted(step))

    def at(self, k):
        """The value at a whole number."""
        below = self.den.at(k)
        if below.is_zero:
            raise Pole(k)
        return self.num.at(k).over(below)

    @staticmethod
    def whole(p):
        """The polynomial p over 1."""
        return Quotient(p, Poly([1]))
