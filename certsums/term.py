"""Sequences of nonzero fractions that are given by a first value and by the ratio of neighbours."""

from certsums.errors import BeforeStart, InvalidTerm
from certsums.fraction import Fraction
from certsums.intlists import evaluated
from certsums.margin import roots_from


class Term:
    """The sequence t(start) = first, t(k + 1) = ratio(k) t(k) for all whole k >= start."""

    def __init__(self, start, first, ratio):
        if first.is_zero or ratio.is_zero:
            raise InvalidTerm("a term has no value that is zero")
        if len(roots_from(ratio.num, start=start)) > 0 or len(roots_from(ratio.den, start=start)) > 0:
            raise InvalidTerm("the ratio of a term has neither zeros nor poles behind its start")
        self.start = start
        self.first = first
        self.ratio = ratio

    def __eq__(self, other):
        return (isinstance(other, Term) and self.start == other.start and self.first == other.first
                and self.ratio == other.ratio)

    def value(self, k):
        """t(k), for a whole number k >= start."""
        if k < self.start:
            raise BeforeStart(k)
        above, below = _product(_steps(self.ratio, self.start, k))
        return self.first * Fraction(above, below)

    def times(self, other):
        """The product of two terms."""
        start = max(self.start, other.start)
        return Term(start, self.value(start) * other.value(start), self.ratio * other.ratio)

    def over(self, other):
        """The quotient of two terms."""
        start = max(self.start, other.start)
        return Term(start, self.value(start).over(other.value(start)), self.ratio.over(other.ratio))

    def scaled(self, factor):
        """The term times a fraction that is not 0."""
        return Term(self.start, self.first * factor, self.ratio)

    def later(self, start):
        """The same sequence from a later start."""
        return Term(start, self.value(start), self.ratio)

    def partial_sum(self, last):
        """The sum of t(k) for all k from the start to last."""
        if last < self.start:
            return Fraction(0)
        _, below, total = _sums(_steps(self.ratio, self.start, last + 1))
        return self.first * Fraction(total, below)


def _steps(ratio, low, high):
    """The numerator and the denominator of the ratio at low, .., high - 1, as pairs of whole numbers."""
    return [(evaluated(ratio.num.coefs, k) * ratio.den.den, evaluated(ratio.den.coefs, k) * ratio.num.den)
            for k in range(low, high)]


def _product(steps):
    """The products of the numerators and of the denominators."""
    if len(steps) == 0:
        return 1, 1
    if len(steps) == 1:
        return steps[0]
    # Two halves keep the numbers of most of the products small.
    middle = len(steps) // 2
    above, below = _product(steps[:middle])
    next_above, next_below = _product(steps[middle:])
    return above * next_above, below * next_below


def _sums(steps):
    """(above, below, total): both products, and the numerator over below of 1 + r + r r' + .., one part a step."""
    if len(steps) == 1:
        above, below = steps[0]
        return above, below, below
    middle = len(steps) // 2
    above, below, total = _sums(steps[:middle])
    next_above, next_below, next_total = _sums(steps[middle:])
    return above * next_above, below * next_below, total * next_below + above * next_total
