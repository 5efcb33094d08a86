"""Polynomials in the two variables n and k with rational coefficients."""

from certsums.counting import binomial
from certsums.fraction import Fraction
from certsums.intlists import common_den, multiplied, power_of, powered, shifted_coefs, total_of, trimmed
from certsums.poly import Poly, from_fractions

# If rows grow by more bits over one denominator, a product is faster row by row.
MUCH = 256


class Poly2:
    """rows[i] is the coefficient of the power i of k, a polynomial in n; the last row is not zero."""

    def __init__(self, rows):
        kept = list(rows)
        while len(kept) > 0 and kept[-1].is_zero:
            kept.pop()
        self.rows = tuple(kept)

    def __eq__(self, other):
        return isinstance(other, Poly2) and self.rows == other.rows

    def __add__(self, other):
        length = max(len(self.rows), len(other.rows))
        return Poly2([self.row(i) + other.row(i) for i in range(length)])

    def __sub__(self, other):
        return self + -other

    def __mul__(self, other):
        first_den = common_den(self.rows)
        second_den = common_den(other.rows)
        if max(_growth(self.rows, first_den), _growth(other.rows, second_den)) > MUCH:
            return Poly2(_product_by_rows(self.rows, other.rows))
        width = max(0, self.degree_n) + max(0, other.degree_n) + 1
        product = multiplied(_flat(self.rows, first_den, width), _flat(other.rows, second_den, width))
        return Poly2(_cut(product, first_den * second_den, width))

    def __neg__(self):
        return Poly2([-row for row in self.rows])

    @property
    def degree_n(self):
        """The degree in n, -1 for the zero polynomial."""
        return max([row.degree for row in self.rows], default=-1)

    @property
    def degree_k(self):
        """The degree in k, -1 for the zero polynomial."""
        return len(self.rows) - 1

    @property
    def is_zero(self):
        """Whether this is the zero polynomial."""
        return len(self.rows) == 0

    def row(self, index):
        """The coefficient of the power index >= 0 of k, zero beyond the degree."""
        if index >= len(self.rows):
            return Poly([])
        return self.rows[index]

    def value_at(self, n, k):
        """The value at two whole numbers."""
        return self.at_n(n).at(k)

    def at_n(self, n):
        """The polynomial in k for a whole number n."""
        return from_fractions([row.at(n) for row in self.rows])

    def at_k(self, k):
        """The polynomial in n for a whole number k."""
        found = Poly([])
        for row in reversed(self.rows):
            found = found.scaled(Fraction(k)) + row
        return found

    def moved(self, by_n, by_k):
        """The polynomial with n + by_n in place of n and k + by_k in place of k."""
        width = self.degree_n + 1
        den = common_den(self.rows)
        table = [shifted_coefs(_padded(row, den, width), by_n) for row in self.rows]
        columns = [shifted_coefs([entries[j] for entries in table], by_k) for j in range(width)]
        return Poly2([Poly([column[i] for column in columns], den) for i in range(len(table))])

    def power(self, exponent):
        """This polynomial to a power, 1 for the exponent 0."""
        den = common_den(self.rows)
        if _growth(self.rows, den) > MUCH:
            return product_of2([self] * exponent)
        width = max(0, self.degree_n) * exponent + 1
        return Poly2(_cut(powered(trimmed(_flat(self.rows, den, width)), exponent), power_of(den, exponent), width))

    @staticmethod
    def in_n(p):
        """The polynomial p(n)."""
        return Poly2([p])

    @staticmethod
    def in_k(p):
        """The polynomial p(k)."""
        return Poly2([Poly([c], p.den) for c in p.coefs])

    @staticmethod
    def line(n_factor, k_factor, offset):
        """n_factor n + k_factor k + offset, of three whole numbers."""
        return Poly2([Poly([offset, n_factor]), Poly([k_factor])])

    @staticmethod
    def of_sum(p):
        """The polynomial p(n + k)."""
        size = len(p.coefs)
        return Poly2([Poly([binomial(j, i) * p.coefs[j] for j in range(i, size)], p.den) for i in range(size)])


def _growth(rows, den):
    """How many bits the coefficients of a row may grow by over the common denominator den."""
    return max([(den // row.den).bit_length() for row in rows], default=0)


def _product_by_rows(first, second):
    return [_row_of_product(first, second, i) for i in range(len(first) + len(second) - 1)]


def _row_of_product(first, second, index):
    low = max(0, index - len(second) + 1)
    high = min(index + 1, len(first))
    return total_of([first[j] * second[index - j] for j in range(low, high)], Poly([]))


def _padded(row, den, width):
    """The numerators of a row over den, with zeros up to the width."""
    scale = den // row.den
    return [c * scale for c in row.coefs] + [0] * (width - len(row.coefs))


def _flat(rows, den, width):
    """The numerators of all rows in one list, which are the coefficients after k became the power width of n.

    If the width is greater than the degree of a product in n, its rows can be cut from the product of such lists.
    """
    return [c for row in rows for c in _padded(row, den, width)]


def _cut(coefs, den, width):
    """The rows of which the coefficients were made."""
    return [Poly(coefs[i:i + width], den) for i in range(0, len(coefs), width)]


def product_of2(factors):
    """The product of a list of polynomials, 1 for an empty list."""
    found = Poly2([Poly([1])])
    for factor in factors:
        found = found * factor
    return found
