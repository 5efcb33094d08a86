"""Recurrence operators: polynomials in n times powers of the shift N, which takes u(n) to u(n + 1)."""

from certsums.fraction import Fraction, sum_of
from certsums.intlists import total_of
from certsums.poly import Poly
from certsums.polysystems import poly_kernel


class Operator:
    """coefs[j] is the coefficient of N ** j, a polynomial in n; the last one is not zero."""

    def __init__(self, coefs):
        kept = list(coefs)
        while len(kept) > 0 and kept[-1].is_zero:
            kept.pop()
        self.coefs = tuple(kept)

    def __eq__(self, other):
        return isinstance(other, Operator) and self.coefs == other.coefs

    def __add__(self, other):
        length = max(len(self.coefs), len(other.coefs))
        return Operator([_coefficient(self, j) + _coefficient(other, j) for j in range(length)])

    def __sub__(self, other):
        return self + -other

    def __mul__(self, other):
        return Operator([_coefficient_of_product(self, other, j) for j in range(len(self.coefs) + len(other.coefs))])

    def __neg__(self):
        return Operator([-coef for coef in self.coefs])

    @property
    def order(self):
        """The greatest power of N, -1 for the zero operator."""
        return len(self.coefs) - 1

    @property
    def is_zero(self):
        """Whether this is the zero operator."""
        return len(self.coefs) == 0

    @property
    def lead(self):
        """The coefficient of the greatest power of N, zero for the zero operator."""
        return _coefficient(self, self.order)

    def apply_at(self, values, n):
        """The value at n >= 0 of the sequence that a sequence with these first values is mapped to."""
        return sum_of([coef.at(n) * values[n + j] for j, coef in enumerate(self.coefs)])

    @staticmethod
    def shift(steps):
        """The operator N ** steps."""
        return Operator([Poly([]) for _ in range(steps)] + [Poly([1])])


def _coefficient(operator, index):
    if index < 0 or index >= len(operator.coefs):
        return Poly([])
    return operator.coefs[index]


def _coefficient_of_product(first, second, index):
    low = max(0, index - second.order)
    high = min(index, first.order)
    # N ** i takes b(n) to b(n + i).
    return total_of([first.coefs[i] * second.coefs[index - i].shifted(i) for i in range(low, high + 1)], Poly([]))


def least_multiple(first, second):
    """A pair (left, right) with left first = right second of least order, not zero, for two nonzero operators."""
    places = [(first.order + i, 0, i) for i in range(second.order + 1)]
    places = places + [(second.order + i, 1, i) for i in range(first.order + 1)]
    # In ascending order, the first multiple that depends on the ones before it tells the least order.
    places = sorted(places)
    multiples = [Operator.shift(place[2]) * (first if place[1] == 0 else second) for place in places]
    height = first.order + second.order + 1
    rows = [[_coefficient(multiple, e) for multiple in multiples] for e in range(height)]
    _, vector = poly_kernel(rows, len(multiples))
    left = [p for p, place in zip(vector, places) if place[1] == 0]
    right = [-p for p, place in zip(vector, places) if place[1] == 1]
    return Operator(left), Operator(right)
