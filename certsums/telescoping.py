"""The equations for telescopers of binomial sums."""

from certsums.fraction import Fraction
from certsums.poly import Poly
from certsums.poly2 import Poly2, product_of2


def column(binomial_sum, order, j):
    """The polynomial that the unknown a_j is multiplied by, for 0 <= j <= order."""
    chosen = [Poly2.line(1, 0, i) for i in range(1, j + 1)] + [Poly2.line(1, -1, i) for i in range(j + 1, order + 1)]
    risen = [Poly2.line(1, 1, i) for i in range(1, j + 1)] + [Poly2.line(1, 0, i) for i in range(j + 1, order + 1)]
    factors = product_of2(chosen).power(binomial_sum.choose) * product_of2(risen).power(binomial_sum.rise)
    return binomial_sum.weight.moved(j, 0) * factors


def forward(binomial_sum, order):
    """The polynomial that m(n, k + 1) is multiplied by."""
    return product_of2([
        Poly2.in_n(Poly.constant(binomial_sum.base)),
        Poly2.line(1, -1, order).power(binomial_sum.choose),
        Poly2.line(1, 1, 1).power(binomial_sum.rise),
        Poly2.line(0, 4, 2).power(binomial_sum.central)])


def backward(binomial_sum):
    """The polynomial that m(n, k) is multiplied by."""
    return Poly2.line(0, 1, 0).power(binomial_sum.factors)


def certificate_degree(binomial_sum, order):
    """A bound of the degree in k of the polynomial m of a telescoper, -1 if m must be zero."""
    choose, rise, central = binomial_sum.choose, binomial_sum.rise, binomial_sum.central
    # The column j has the degree of the weight and (order - j) choose + j rise factors with k.
    greatest = binomial_sum.weight.degree_k + order * max(choose, rise)
    bound = greatest - binomial_sum.factors
    growth = binomial_sum.base * Fraction(-1).power(choose) * Fraction(4).power(central)
    if growth == Fraction(1):
        bound = bound + 1
        other = Fraction(choose * (order - 1)) - Fraction(central, 2)
        if choose == rise and other.is_whole:
            bound = max(bound, other.num)
    return max(-1, bound)


def equations(binomial_sum, order):
    """The pair (rows, width): one row for each power of k, one column for each a_j and each coefficient of m."""
    parts = [column(binomial_sum, order, j) for j in range(order + 1)]
    parts = parts + _certificate_parts(binomial_sum, order, certificate_degree(binomial_sum, order))
    height = 1 + max([part.degree_k for part in parts])
    return [[part.row(e) for part in parts] for e in range(height)], len(parts)


def _certificate_parts(binomial_sum, order, degree):
    """What the coefficients of m at the powers 0, .., degree of k are multiplied by."""
    found = []
    first, second = backward(binomial_sum), forward(binomial_sum, order)
    for _ in range(degree + 1):
        found.append(first - second)
        first = first * Poly2.line(0, 1, 0)
        second = second * Poly2.line(0, 1, 1)
    return found
