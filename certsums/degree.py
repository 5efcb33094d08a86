"""The degree bound of polynomial solutions."""

from certsums.errors import ZeroPolynomial
from certsums.fraction import Fraction


def degree_bound(a, b, c):
    """A bound of the degree of each polynomial x with a(k) x(k + 1) - b(k - 1) x(k) = c(k), -1 if there is none."""
    if a.is_zero or b.is_zero or c.is_zero:
        raise ZeroPolynomial("a degree bound needs polynomials that are not zero")
    below = b.shifted(-1)
    difference = a - below
    total = a + below
    if difference.degree >= total.degree:
        return max(-1, c.degree - difference.degree)
    bound = c.degree - total.degree + 1
    other = difference.coefficient(total.degree - 1) * Fraction(-2).over(total.lead)
    if other.is_whole:
        bound = max(bound, other.num)
    return max(-1, bound)
