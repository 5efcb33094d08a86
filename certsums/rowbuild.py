"""Rows of sums and terms, and rows that are made from other rows."""

from certsums.definite import least_recurrence
from certsums.division import common_divisor_of, exact
from certsums.errors import InvalidRow
from certsums.fraction import Fraction
from certsums.operator import Operator, least_multiple
from certsums.poly import Poly
from certsums.polysystems import poly_kernel
from certsums.row import Row, joint_count, needed


def row_of_sum(binomial_sum):
    """The row with the values S(0), S(1), .. of a binomial sum."""
    operator = least_recurrence(binomial_sum)[-1][2]
    return row_by_operator(binomial_sum, operator)


def row_by_operator(binomial_sum, operator):
    """The row of a binomial sum with an operator, not zero, that maps its values to zero."""
    values = []
    for n in range(needed(operator)):
        values.append(_value_of_sum(binomial_sum, operator, values, n))
    return Row(operator, values)


def _value_of_sum(binomial_sum, operator, values, n):
    """S(n), from the values before it where the operator tells it, as this is faster than the sum itself."""
    start = n - operator.order
    if start < 0 or operator.lead.at(start).is_zero:
        return binomial_sum.value(n)
    rest = operator.apply_at(values + [Fraction(0)], start)
    return -rest.over(operator.lead.at(start))


def row_of_term(term):
    """The row with the values t(0), t(1), .. of a term that starts at 0."""
    if term.start != 0:
        raise InvalidRow("the term does not start at 0")
    return Row(Operator([-term.ratio.num, term.ratio.den]), [term.first])


def add_rows(first, second):
    """The row with the values u(n) + v(n)."""
    left, _ = least_multiple(first.operator, second.operator)
    operator = left * first.operator
    count = joint_count(first, second, operator)
    return Row(operator, [x + y for x, y in zip(first.prefix(count), second.prefix(count))])


def multiply_rows(first, second):
    """The row with the values u(n) v(n)."""
    operator = _product_operator(first.operator, second.operator)
    count = joint_count(first, second, operator)
    return Row(operator, [x * y for x, y in zip(first.prefix(count), second.prefix(count))])


def _product_operator(first, second):
    """The operator of least order that maps each product of sequences which these two map to zero to zero."""
    size = first.order * second.order
    # One column for each u(n + i) v(n + i), in terms of the products of the first values behind n.
    dens = []
    columns = []
    for (den, entries), (other_den, others) in zip(_shifts(first, size + 1), _shifts(second, size + 1)):
        dens.append(den * other_den)
        columns.append([x * y for x in entries for y in others])
    _, vector = poly_kernel([[column[e] for column in columns] for e in range(size)], size + 1)
    coefs = [p * den for p, den in zip(vector, dens)]
    divisor = common_divisor_of(coefs)
    return Operator([exact(p, divisor) for p in coefs])


def _shifts(operator, count):
    """For i from 0 to count - 1 a pair (den, entries) with den(n) u(n + i) = the sum of entries[j](n) u(n + j).

    There is one entry for each j that is less than the order.
    """
    entries = [Poly([1 if j == 0 else 0]) for j in range(operator.order)]
    den = Poly([1])
    found = [(den, entries)]
    while len(found) < count:
        den, entries = _next_shift(operator, den.shifted(1), [p.shifted(1) for p in entries])
        found.append((den, entries))
    return found


def _next_shift(operator, den, moved):
    """The next pair, from the moved one, in which u(n + order) is replaced by the values before it."""
    if len(moved) == 0:
        return den, []
    last = moved[-1]
    raised = [Poly([])] + moved[:-1]
    if last.is_zero:
        return den, raised
    entries = [operator.lead * p - last * operator.coefs[j] for j, p in enumerate(raised)]
    return operator.lead * den, entries


def scale_row(row, factor):
    """The row with the values factor u(n)."""
    return Row(row.operator, [x * factor for x in row.initial])


def partial_sums(row):
    """The row with the values u(0) + .. + u(n - 1)."""
    totals = [Fraction(0)]
    for x in row.initial:
        totals.append(totals[-1] + x)
    return Row(row.operator * Operator([Poly([-1]), Poly([1])]), totals)


def move_row(row):
    """The row with the values u(n + 1)."""
    count = max(len(row.initial) - 1, row.operator.order)
    return Row(Operator([p.shifted(1) for p in row.operator.coefs]), row.prefix(count + 1)[1:])
