"""Normal forms of quotients."""

from certsums.distance import distances
from certsums.division import common_divisor, exact
from certsums.errors import ZeroPolynomial
from certsums.poly import Poly


def normal_form(ratio):
    """(a, b, c) with ratio(k) = a(k) c(k + 1) / (b(k) c(k)), where a and b have no distance."""
    if ratio.is_zero:
        raise ZeroPolynomial("the zero quotient has no normal form")
    a, b, c = ratio.num, ratio.den, Poly([1])
    for h in distances(a, b):
        shared = common_divisor(a, b.shifted(h))
        a = exact(a, shared)
        b = exact(b, shared.shifted(-h))
        for i in range(1, h + 1):
            c = c * shared.shifted(-i)
    return a, b, c
