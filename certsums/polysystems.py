"""Linear systems of polynomials: a kernel vector of coprime polynomials, or a number with an inverse.

A kernel vector of few columns consists of determinants. One of many columns is found as a power series around a number,
modulo a power of a prime number, from which its polynomials are read off. Each one is checked; if it is wrong, the next
prime number and a higher power of it are taken.
"""

from itertools import zip_longest

from certsums.division import common_divisor_of, exact
from certsums.intlists import added, inner, multiplied, next_prime, power_of, primitive, shifted_coefs
from certsums.intlists import common_fractions, inverse_of_unit, remainders, value_modulo, whole_coefs
from certsums.poly import Poly
from certsums.systems import PRIME, first_gap, inverse_matrix, kernel, pivots_modulo

# A number at which a matrix is likely to have a full rank if it has one anywhere.
PROBE = 1618033988

# A recurrence is taken for the right one if it holds for so many terms more than it needs.
SPARE = 8

# Up to so many independent columns, determinants are found faster than a power series.
FEW = 7


def poly_kernel(rows, width):
    """("vector", v) with rows times v equal to 0, or ("point", n, inverse) with an inverse of the rows at n."""
    matrix = [whole_coefs(row) for row in rows]
    prime = PRIME
    probe = PROBE
    count = 2
    while True:
        _, columns = pivots_modulo(_matrix_at(matrix, probe, prime), width, prime)
        if len(columns) == width:
            n, _ = _regular_number(matrix, width, prime)
            _, inverse = kernel([[p.at(n) for p in row] for row in rows], width)
            return "point", n, inverse
        vector = _kernel_vector(matrix, first_gap(columns), prime, power_of(prime, count))
        if vector is not None and _is_in_kernel(matrix, vector):
            return "vector", _coprime(vector, width)
        prime = next_prime(prime)
        probe = probe + 1
        count = 2 * count


def _matrix_at(matrix, n, prime):
    return [[value_modulo(coefs, n, prime) for coefs in row] for row in matrix]


def _regular_number(matrix, count, prime):
    """The pair (n, indexes): the least n >= 0 at which the first columns are independent, and rows that show it."""
    n = 0
    while True:
        indexes, columns = pivots_modulo(_matrix_at(matrix, n, prime), count, prime)
        if len(columns) == count:
            return n, indexes
        n = n + 1


def _coprime(vector, width):
    """The polynomials with these coefficients without a common divisor, and zeros up to the width."""
    polys = [Poly(coefs) for coefs in vector]
    divisor = common_divisor_of(polys)
    return [exact(p, divisor) for p in polys] + [Poly([]) for _ in range(width - len(polys))]


def _kernel_vector(matrix, count, prime, modulus):
    """The whole coefficients of a vector in which the column count, the first dependent one, comes last, or None."""
    start, indexes = _regular_number(matrix, count, prime)
    if count <= FEW:
        return _determinants([matrix[i][:count + 1] for i in indexes])
    return _vector_by_series(matrix, count, start, indexes, prime, modulus)


def _determinants(rows):
    """The determinants without one of the columns, of which there is one more than rows, with alternating signs."""
    # The bits of a key tell the columns of a determinant of the first rows.
    known = {0: [1]}
    for row in rows:
        known = _with_one_row_more(known, row)
    width = len(rows) + 1
    found = [known[(1 << width) - 1 - (1 << j)] for j in range(width)]
    return [coefs if j % 2 == 0 else [-c for c in coefs] for j, coefs in enumerate(found)]


def _with_one_row_more(known, row):
    found = {}
    for key in known:
        for j, coefs in enumerate(row):
            if (key >> j) & 1 == 0:
                behind = len([i for i in range(j + 1, len(row)) if (key >> i) & 1 == 1])
                signed = coefs if behind % 2 == 0 else [-c for c in coefs]
                total = found.get(key + (1 << j), [])
                found[key + (1 << j)] = added(total, multiplied(known[key], signed))
    return found


def _vector_by_series(matrix, count, start, indexes, prime, modulus):
    """The same vector, read off a power series, or None."""
    local = [[shifted_coefs(matrix[i][j], start) for j in range(count + 1)] for i in indexes]
    terms, shortest = _series(local, count, prime, modulus)
    divisor = remainders(shortest.coefs, modulus)
    if divisor[-1] % prime == 0:
        return None
    polys = [_times_series(divisor, [term[j] for term in terms[:shortest.size]], modulus) for j in range(count)]
    return _rational(polys + [divisor], start, prime, modulus)


def _series(local, count, prime, modulus):
    """Power series x with (the first columns) x = -(the last column), as a list of terms, and their recurrence."""
    inverse = inverse_matrix([[_coefficient(p, 0) for p in row[:count]] for row in local], prime, modulus)
    later = [_later_coefficients(row[:count]) for row in local]
    right = [row[count] for row in local]
    depth = max([len(p) for row in local for p in row], default=0)
    # No right recurrence needs more terms, as a determinant has no greater degree.
    most = 2 * (depth * count + 1) + SPARE
    weights = [power_of(PROBE, j) % prime for j in range(count)]
    shortest = ShortestRecurrence(prime, modulus)
    history = [0 for _ in range(depth * count)]
    terms = []
    while len(terms) <= min(2 * shortest.size + SPARE, most):
        rest = [-_coefficient(p, len(terms)) - sum([c * history[at] for at, c in pairs])
                for p, pairs in zip(right, later)]
        term = [inner(row, rest) % modulus for row in inverse]
        terms.append(term)
        history = (term + history)[:depth * count]
        shortest.take(inner(weights, term) % modulus)
    return terms, shortest


def _coefficient(coefs, index):
    return coefs[index] if index < len(coefs) else 0


def _later_coefficients(row):
    """The pairs (place in the list of all earlier terms, coefficient) of the positive powers in a row."""
    size = len(row)
    return [((e - 1) * size + j, c) for j, coefs in enumerate(row) for e, c in enumerate(coefs) if e > 0 and c != 0]


class ShortestRecurrence:
    """The shortest linear recurrence of the values so far, modulo a power of a prime number.

    The sum of coefs[i] times the value i places back is 0 for each value but the first ones, of which there are size.
    It is only right if no number that divides another one here is a multiple of the prime number.
    """

    def __init__(self, prime, modulus):
        self.prime = prime
        self.modulus = modulus
        self.coefs = [1]
        self.size = 0
        self.newest_first = []
        self.earlier = [1]
        self.earlier_inverse = 1
        self.gap = 1

    def take(self, value):
        """Takes the next value."""
        self.newest_first = [value] + self.newest_first
        miss = inner(self.coefs, self.newest_first) % self.modulus
        if miss == 0:
            self.gap = self.gap + 1
            return
        kept = self.coefs
        moved = [0 for _ in range(self.gap)] + self.earlier
        factor = miss * self.earlier_inverse % self.modulus
        self.coefs = [(x - factor * y) % self.modulus for x, y in zip_longest(kept, moved, fillvalue=0)]
        if 2 * self.size < len(self.newest_first):
            self.size = len(self.newest_first) - self.size
            self.earlier = kept
            self.earlier_inverse = inverse_of_unit(miss, self.prime, self.modulus)
            self.gap = 1
        else:
            self.gap = self.gap + 1


def _times_series(divisor, terms, modulus):
    """The terms of the product up to the length of the series."""
    return [c % modulus for c in multiplied(divisor, terms)[:len(terms)]]


def _rational(polys, start, prime, modulus):
    """The whole coefficients of polynomials in n - start, in terms of n and up to one factor, or None."""
    factor = inverse_of_unit(polys[-1][-1], prime, modulus)
    moved = [shifted_coefs([c * factor % modulus for c in coefs], -start) for coefs in polys]
    answer = common_fractions([c for coefs in moved for c in coefs], modulus, 1)
    if answer is None:
        return None
    numerators, _ = answer
    flat = primitive(numerators)
    ends = [sum([len(coefs) for coefs in moved[:i + 1]]) for i in range(len(moved))]
    return [flat[end - len(coefs):end] for end, coefs in zip(ends, moved)]


def _is_in_kernel(matrix, vector):
    for row in matrix:
        total = []
        for coefs, entry in zip(row, vector):
            total = added(total, multiplied(coefs, entry))
        if total != [0 for _ in total]:
            return False
    return True
