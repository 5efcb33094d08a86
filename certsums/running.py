"""Closed forms of running sums, or certificates that there is none."""

from certsums.degree import degree_bound
from certsums.distance import coprime_certificate
from certsums.errors import ZeroPolynomial
from certsums.normalform import normal_form
from certsums.poly import Poly, from_fractions
from certsums.quotient import Quotient
from certsums.systems import solve


def running_sum(ratio):
    """("closed", y) with a closed form of the ratio, or an open certificate ("open", a, b, c, u, v, w, f)."""
    if ratio.is_zero:
        raise ZeroPolynomial("the zero quotient is not the ratio of a term")
    a, b, c = normal_form(ratio)
    below = b.shifted(-1)
    # A closed form is below x / c with a polynomial x, and one number in f or one equation belongs to each power of k.
    columns = _columns(a, below, degree_bound(a, b, c))
    height = 1 + max([p.degree for p in columns + [c]])
    rows = [[p.coefficient(e) for p in columns] for e in range(height)]
    kind, vector = solve(rows, [c.coefficient(e) for e in range(height)], len(columns))
    if kind == "solution":
        return "closed", Quotient(below * from_fractions(vector), c)
    u, v, w = coprime_certificate(a, b)
    return "open", a, b, c, u, v, w, tuple(vector)


def _columns(a, below, bound):
    """The polynomials a(k) (k + 1) ** i - below(k) k ** i for i from 0 to the bound."""
    found = []
    first, second = a, below
    for _ in range(bound + 1):
        found.append(first - second)
        first = first * Poly([1, 1])
        second = second * Poly([0, 1])
    return found


def closed_value(term, y, last):
    """The partial sum of the term up to last >= start - 1, for a closed form y of its ratio."""
    return y.at(last + 1) * term.value(last + 1) - y.at(term.start) * term.value(term.start)
