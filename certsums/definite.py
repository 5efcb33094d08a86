"""Recurrences of sums of products of binomial coefficients, or certificates that there is none of an order."""

from certsums.operator import Operator
from certsums.poly2 import Poly2
from certsums.polysystems import poly_kernel
from certsums.telescoping import equations


def recurrence(binomial_sum, *, order):
    """("recurrence", order, operator, m) with a telescoper of the order, or ("none", order, n, inverse)."""
    rows, width = equations(binomial_sum, order)
    answer = poly_kernel(rows, width)
    if answer[0] == "vector":
        vector = answer[1]
        return "recurrence", order, Operator(vector[:order + 1]), Poly2(vector[order + 1:])
    _, n, inverse = answer
    return "none", order, n, tuple([tuple(row) for row in inverse])


def least_recurrence(binomial_sum):
    """The answers for the orders 0, 1, 2, .. up to the first one that has a telescoper."""
    answers = [recurrence(binomial_sum, order=0)]
    while answers[-1][0] == "none":
        answers.append(recurrence(binomial_sum, order=len(answers)))
    return answers
