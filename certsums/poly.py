"""Polynomials in one variable with rational coefficients."""

from math import lcm

from certsums.errors import DivisionByZero
from certsums.fraction import Fraction
from certsums.intlists import added, common_den, common_factor, evaluated, multiplied, power_of, powered
from certsums.intlists import shifted_coefs, trimmed


class Poly:
    """Whole coefficients, the power 0 first, over one positive denominator, in lowest terms."""

    def __init__(self, coefs, den=1):
        if den == 0:
            raise DivisionByZero("the denominator of a polynomial is zero")
        kept = trimmed(coefs)
        common = common_factor([den] + kept)
        if den < 0:
            common = -common
        self.coefs = tuple([c // common for c in kept])
        self.den = den // common

    def __eq__(self, other):
        return isinstance(other, Poly) and self.coefs == other.coefs and self.den == other.den

    def __add__(self, other):
        den = lcm(self.den, other.den)
        return Poly(added(_coefs_over(self, den), _coefs_over(other, den)), den)

    def __sub__(self, other):
        return self + -other

    def __mul__(self, other):
        return Poly(multiplied(self.coefs, other.coefs), self.den * other.den)

    def __neg__(self):
        return Poly([-c for c in self.coefs], self.den)

    @property
    def degree(self):
        """The degree, -1 for the zero polynomial."""
        return len(self.coefs) - 1

    @property
    def is_zero(self):
        """Whether this is the zero polynomial."""
        return len(self.coefs) == 0

    @property
    def lead(self):
        """The coefficient of the greatest power, 0 for the zero polynomial."""
        return self.coefficient(self.degree)

    def coefficient(self, index):
        """The coefficient of the power index, 0 where there is none."""
        if index < 0 or index > self.degree:
            return Fraction(0)
        return Fraction(self.coefs[index], self.den)

    def at(self, k):
        """The value at a whole number."""
        return Fraction(evaluated(self.coefs, k), self.den)

    def value(self, x):
        """The value at a fraction."""
        total = 0
        scale = 1
        for c in reversed(self.coefs):
            scale = scale * x.den
            total = total * x.num + c * scale
        return Fraction(total, self.den * scale)

    def scaled(self, factor):
        """This polynomial times a fraction."""
        return Poly([c * factor.num for c in self.coefs], self.den * factor.den)

    def shifted(self, step):
        """p(x + step)."""
        return Poly(shifted_coefs(self.coefs, step), self.den)

    def power(self, exponent):
        """This polynomial to a power, 1 for the exponent 0."""
        return Poly(powered(self.coefs, exponent), power_of(self.den, exponent))

    @staticmethod
    def constant(x):
        """The polynomial with the value x, a fraction."""
        return Poly([x.num], x.den)

    @staticmethod
    def line(slope, offset):
        """slope x + offset, of two whole numbers."""
        return Poly([offset, slope])


def _coefs_over(p, den):
    """The coefficients of p as numerators over den, a multiple of its denominator."""
    scale = den // p.den
    return [c * scale for c in p.coefs]


def from_fractions(fractions):
    """The polynomial with these coefficients, the power 0 first."""
    den = common_den(fractions)
    return Poly([fraction.num * (den // fraction.den) for fraction in fractions], den)
