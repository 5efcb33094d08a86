"""Matrices and vectors of fractions."""

from certsums.fraction import Fraction, sum_of


def dot(first, second):
    """The sum of the products of the entries of two lists of equal length."""
    return sum_of([x * y for x, y in zip(first, second)])


def apply(rows, vector):
    """The product of a matrix and a vector."""
    return [dot(row, vector) for row in rows]


def combine(vector, rows, width):
    """The combination of the rows of a matrix by a vector."""
    return [dot(vector, [row[j] for row in rows]) for j in range(width)]


def multiply(left, right, width):
    """The product of two matrices, of which the right one has rows of width entries."""
    return [combine(row, right, width) for row in left]


def identity(size):
    """The identity matrix."""
    return [[Fraction(1 if i == j else 0) for j in range(size)] for i in range(size)]
