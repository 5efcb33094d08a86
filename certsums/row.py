"""Sequences that are given by a recurrence and by first values."""

from math import gcd

from certsums.errors import InvalidRow
from certsums.fraction import Fraction
from certsums.intlists import common_den, common_factor, evaluated, inner, whole_coefs
from certsums.margin import free_from

# A common denominator may grow by so many bits before a divisor is looked for.
GROWTH = 2000


def needed(operator):
    """The number of first values that determine a sequence which the operator maps to zero."""
    if operator.is_zero:
        raise InvalidRow("the zero operator determines no values")
    return free_from(operator.lead, start=0) + operator.order


class Row:
    """The sequence with these first values whose further ones follow from the operator."""

    def __init__(self, operator, initial):
        if len(initial) < needed(operator):
            raise InvalidRow("there are too few first values")
        self.operator = operator
        self.initial = tuple(initial)

    def __eq__(self, other):
        return isinstance(other, Row) and self.operator == other.operator and self.initial == other.initial

    @property
    def since(self):
        """The number from which on the operator maps the sequence to zero."""
        return len(self.initial) - self.operator.order

    def value(self, n):
        """u(n), for n >= 0."""
        if n < len(self.initial):
            return self.initial[n]
        return _value_behind(Walk(self), n)

    def prefix(self, count):
        """The list u(0), .., u(count - 1)."""
        walk = Walk(self)
        pairs = [walk.take() for _ in range(count)]
        return [Fraction(num, den) for num, den in pairs]


def _value_behind(walk, n):
    num, den = walk.take()
    for _ in range(n):
        num, den = walk.take()
    return Fraction(num, den)


class Walk:
    """The values of a row, one after the other, as pairs (numerator, denominator).

    They need not be in lowest terms, and the denominator may be negative. The numbers over den are the values that the
    next one follows from, the oldest one first.
    """

    def __init__(self, sequence):
        self.initial = sequence.initial
        self.position = 0
        self.coefs = whole_coefs(sequence.operator.coefs)
        newest = sequence.initial[sequence.since:]
        self.den = common_den(newest)
        self.numbers = [x.num * (self.den // x.den) for x in newest]
        self.most_bits = self.den.bit_length() + GROWTH

    def take(self):
        """The next value."""
        n = self.position
        self.position = n + 1
        if n < len(self.initial):
            return self.initial[n].num, self.initial[n].den
        if len(self.numbers) == 0:
            return 0, 1
        self._step([evaluated(coefs, n - len(self.numbers)) for coefs in self.coefs])
        return self.numbers[-1], self.den

    def _step(self, factors):
        """Puts the value that follows in the place of the oldest one."""
        above = -inner(factors[:-1], self.numbers)
        below = factors[-1]
        common = gcd(above, below)
        scale = below // common
        self.numbers = [x * scale for x in self.numbers[1:]] + [above // common]
        self.den = self.den * scale
        if self.den.bit_length() > self.most_bits:
            self._shorten()

    def _shorten(self):
        """Brings the numbers to the least common denominator; done seldom, as it takes long for large numbers."""
        common = common_factor([self.den] + self.numbers)
        self.numbers = [x // common for x in self.numbers]
        self.den = self.den // common
        self.most_bits = 2 * self.den.bit_length() + GROWTH


def first_difference(first, second, count):
    """The least index below count at which the values of two rows differ, or None."""
    walk = Walk(first)
    other_walk = Walk(second)
    for n in range(count):
        num, den = walk.take()
        other_num, other_den = other_walk.take()
        if num * other_den != other_num * den:
            return n
    return None


def joint_count(first, second, operator):
    """The number of first values that determine a sequence made from two rows.

    The operator maps the sequence to zero wherever those of the rows map the rows to zero.
    """
    return max(first.since, second.since, free_from(operator.lead, start=0)) + operator.order
