"""Accepts or refuses certificates, no matter who made them."""

from certsums.degree import degree_bound
from certsums.errors import ZeroPolynomial
from certsums.intlists import common_den, inner
from certsums.margin import roots_from
from certsums.matrix import identity, multiply
from certsums.operator import least_multiple
from certsums.poly import Poly
from certsums.poly2 import Poly2
from certsums.row import first_difference, joint_count
from certsums.telescoping import backward, certificate_degree, column, equations, forward

# If a certificate asks for more values than these, a shorter proof is looked for.
MANY = 10000


def accepts_running(ratio, certificate):
    """Whether this is a certificate for the closed form of a ratio, or for there being none."""
    if ratio.is_zero:
        raise ZeroPolynomial("the zero quotient is not the ratio of a term")
    if certificate[0] == "closed":
        return _is_closed_form(ratio, certificate[1])
    if certificate[0] == "open":
        _, a, b, c, u, v, w, f = certificate
        return _is_normal_form(ratio, a, b, c) and _shows_no_distance(a, b, u, v, w) and _refutes(a, b, c, f)
    return False


def _is_closed_form(ratio, y):
    """Whether ratio(k) y(k + 1) - y(k) = 1, with all denominators multiplied out."""
    below = y.den.shifted(1)
    left = ratio.num * y.num.shifted(1) * y.den - y.num * ratio.den * below
    return left == ratio.den * below * y.den


def _is_normal_form(ratio, a, b, c):
    """Whether these are nonzero and ratio(k) = a(k) c(k + 1) / (b(k) c(k)); their distances are left out."""
    if a.is_zero or b.is_zero or c.is_zero:
        return False
    return ratio.num * b * c == ratio.den * a * c.shifted(1)


def _shows_no_distance(a, b, u, v, w):
    if w.is_zero or len(roots_from(w, start=0)) > 0:
        return False
    return u * Poly2.in_k(a) + v * Poly2.of_sum(b) == Poly2.in_n(w)


def _refutes(a, b, c, f):
    """Whether f gives 0 to what each power of k up to the degree bound leads to, but not to c."""
    den = common_den(f)
    weights = [x.num * (den // x.den) for x in f]
    if inner(weights, c.coefs) == 0:
        return False
    first, second = a, b.shifted(-1)
    for _ in range(degree_bound(a, b, c) + 1):
        if inner(weights, (first - second).coefs) != 0:
            return False
        first = first * Poly([1, 1])
        second = second * Poly([0, 1])
    return True


def accepts_recurrence(binomial_sum, certificate):
    """Whether this is a certificate for a telescoper of an order, or for there being none."""
    if certificate[0] == "recurrence":
        _, order, operator, m = certificate
        return _is_telescoper(binomial_sum, order, operator, m)
    if certificate[0] == "none":
        _, order, n, inverse = certificate
        return _is_inverse(binomial_sum, order, n, inverse)
    return False


def _is_telescoper(binomial_sum, order, operator, m):
    if operator.is_zero or operator.order > order:
        return False
    # All columns up to the order of the operator are multiples of (n + i - k) ** choose for each greater i, and then m
    # is one, too; it is not 0, as columns never add up to 0. This refuses an order that is much too large at once.
    if m.is_zero or m.degree_k < binomial_sum.choose * (order - operator.order):
        return False
    total = Poly2([])
    for j, coef in enumerate(operator.coefs):
        total = total + Poly2.in_n(coef) * column(binomial_sum, order, j)
    return total == forward(binomial_sum, order) * m.moved(0, 1) - backward(binomial_sum) * m


def _is_inverse(binomial_sum, order, n, inverse):
    # The number of unknowns is told first, as it refuses a wrong certificate without the matrix.
    if order < 0 or len(inverse) != order + certificate_degree(binomial_sum, order) + 2:
        return False
    rows, width = equations(binomial_sum, order)
    for line in inverse:
        if len(line) != len(rows):
            return False
    return multiply(inverse, [[p.at(n) for p in row] for row in rows], width) == identity(width)


def accepts_rows(first, second, certificate):
    """Whether this is a certificate for the equality of two rows, or for the first index at which they differ."""
    if certificate[0] == "different":
        index = certificate[1]
        return index >= 0 and _difference_below(first, second, index + 1) == index
    if certificate[0] == "equal":
        _, left, right = certificate
        multiple = left * first.operator
        if multiple.is_zero or multiple != right * second.operator:
            return False
        return _difference_below(first, second, joint_count(first, second, multiple)) is None
    return False


def _difference_below(first, second, count):
    """The least index below count at which two rows differ, or None."""
    index = first_difference(first, second, min(count, MANY))
    if index is not None or count <= MANY:
        return index
    # Rows that do not differ within the count of any common multiple do not differ at all.
    left, _ = least_multiple(first.operator, second.operator)
    return first_difference(first, second, min(count, joint_count(first, second, left * first.operator)))
