"""Division with remainder and greatest common divisors of polynomials."""

from math import gcd

from certsums.errors import ZeroPolynomial
from certsums.intlists import coprime_modulo, evaluated, height, primitive
from certsums.poly import Poly

# A prime number. It only decides how fast a divisor is found, not which one.
PRIME = 2305843009213693951


def divide(p, q):
    """The pair (quotient, remainder)."""
    if q.is_zero:
        raise ZeroPolynomial("a polynomial is divided by the zero polynomial")
    quotient, rest, factor = _divide_coefs(p.coefs, q.coefs)
    den = factor * p.den
    return Poly([c * q.den for c in quotient], den), Poly(rest, den)


def _divide_coefs(first, second):
    """The triple (quotient, rest, factor) with factor first = quotient second + rest."""
    count = len(first) - len(second) + 1
    quotient = [0 for _ in range(count)]
    rest = list(first)
    factor = 1
    lead = second[-1]
    for at in range(count - 1, -1, -1):
        top = rest[at + len(second) - 1]
        if top % lead != 0:
            # Only as large a factor as this step needs keeps the numbers small.
            scale = lead // gcd(top, lead)
            quotient = [c * scale for c in quotient]
            rest = [c * scale for c in rest]
            factor = factor * scale
            top = top * scale
        share = top // lead
        quotient[at] = share
        if share != 0:
            for i, c in enumerate(second):
                rest[at + i] = rest[at + i] - share * c
    return quotient, rest, factor


def exact(p, q):
    """The quotient of p and a polynomial q that divides it."""
    quotient, _ = divide(p, q)
    return quotient


def monic(p):
    """p divided by its leading coefficient; zero for the zero polynomial."""
    if p.is_zero:
        return p
    return Poly(p.coefs, p.coefs[-1])


def common_divisor(p, q):
    """The greatest common divisor of two polynomials."""
    if p.is_zero:
        return monic(q)
    if q.is_zero:
        return monic(p)
    first = primitive(p.coefs)
    second = primitive(q.coefs)
    if coprime_modulo(first, second, PRIME):
        return Poly([1])
    return monic(_divisor_by_values(first, second))


def _divisor_by_values(first, second):
    """A greatest common divisor, read off the common divisor of the values at one large number.

    If the number is greater than twice the smaller height plus 2, a polynomial that is found in this way and
    divides both is the greatest one. It is found as soon as the number is large enough.
    """
    at = (min(height(first), height(second)) << 24) + 29
    while True:
        value = gcd(evaluated(first, at), evaluated(second, at))
        candidate = Poly(primitive(_digits(value, at)))
        if _divides(candidate, first) and _divides(candidate, second):
            return candidate
        at = (at << 24) + 29


def _digits(number, base):
    """The digits of a number, the lowest one first, each at most half the base in absolute value."""
    digits = []
    while number != 0:
        digit = number % base
        if 2 * digit > base:
            digit = digit - base
        digits.append(digit)
        number = (number - digit) // base
    return digits


def _divides(q, coefs):
    _, remainder = divide(Poly(coefs), q)
    return remainder.is_zero


def common_divisor_of(polys):
    """The greatest common divisor of a list of polynomials, zero for an empty list."""
    found = Poly([])
    for p in polys:
        found = common_divisor(found, p)
        if found.degree == 0:
            return found
    return found
