"""Factorials, binomial coefficients and rising products."""

from math import comb, perm

from certsums.fraction import Fraction, product_of


def factorial(n):
    """1 2 .. n, for n >= 0."""
    return perm(n, n)


def binomial(n, k):
    """The number of k-element subsets of a set of n elements, for n >= 0 and any k."""
    if k < 0:
        return 0
    return comb(n, k)


def rising(x, count):
    """x (x + 1) .. (x + count - 1), for a fraction x and count >= 0."""
    return product_of([x + Fraction(i) for i in range(count)])
