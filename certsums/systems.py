"""Linear systems of fractions: a solution or a refutation, and a kernel vector or an inverse.

Remainders modulo a prime number tell which rows and columns count, and a solution is lifted from its remainders.
Each answer is checked; if it is wrong, the prime number was a bad one, and the next one is taken.
"""

from certsums.fraction import Fraction
from certsums.intlists import common_den, common_fractions, height, inner, inverse_of_unit, next_prime, power_of

# A prime number. It decides how fast an answer is found, and which one of several.
PRIME = 2147483647


def solve(rows, right, width):
    """The pair ("solution", x) with rows times x equal to right, or ("refuted", f)."""
    scales, matrix = _whole_rows([list(row) + [value] for row, value in zip(rows, right)])
    prime = PRIME
    while True:
        answer = _solution_or_refutation(matrix, width, prime)
        if answer is not None:
            break
        prime = next_prime(prime)
    kind, vector = answer
    if kind == "refuted":
        vector = [x * Fraction(scale) for x, scale in zip(vector, scales)]
    return kind, vector


def _whole_rows(rows):
    """The pair (scales, matrix): each row times the least number that makes its entries whole."""
    scales = [common_den(row) for row in rows]
    return scales, [[x.num * (scale // x.den) for x in row] for scale, row in zip(scales, rows)]


def _solution_or_refutation(matrix, width, prime):
    """An answer for a matrix of whole numbers whose last column is the right side, or None."""
    indexes, columns = pivots_modulo(matrix, width, prime)
    square = [[matrix[i][j] for j in columns] for i in indexes]
    numerators, den = solved(square, [[matrix[i][width] for i in indexes]], prime)[0]
    for i, row in enumerate(matrix):
        if inner([row[j] for j in columns], numerators) != row[width] * den:
            return _refutation(matrix, width, indexes, columns, i, prime)
    return "solution", _spread(columns, [Fraction(x, den) for x in numerators], width)


def _refutation(matrix, width, indexes, columns, last, prime):
    """A refutation that combines the rows of the indexes with the row last, or None."""
    across = [[matrix[i][j] for i in indexes] for j in columns]
    numerators, den = solved(across, [[matrix[last][j] for j in columns]], prime)[0]
    used = [matrix[i] for i in indexes]
    for j in range(width):
        if inner([row[j] for row in used], numerators) != matrix[last][j] * den:
            return None
    shares = [Fraction(-x, den) for x in numerators]
    return "refuted", _spread(indexes + [last], shares + [Fraction(1)], len(matrix))


def _spread(places, entries, length):
    """A list of the length with the entries at these places, and 0 elsewhere."""
    found = [Fraction(0) for _ in range(length)]
    for place, entry in zip(places, entries):
        found[place] = entry
    return found


def kernel(rows, width):
    """The pair ("vector", v) with rows times v equal to 0, or ("inverse", inverse)."""
    scales, matrix = _whole_rows(rows)
    prime = PRIME
    while True:
        indexes, columns = pivots_modulo(matrix, width, prime)
        if len(columns) == width:
            return "inverse", _inverse(matrix, scales, indexes, prime)
        vector = _kernel_vector(matrix, width, indexes, first_gap(columns), prime)
        if vector is not None:
            return "vector", vector
        prime = next_prime(prime)


def first_gap(columns):
    """The least number >= 0 that is not in an ascending list of different ones."""
    count = 0
    while count < len(columns) and columns[count] == count:
        count = count + 1
    return count


def _kernel_vector(matrix, width, indexes, count, prime):
    """A kernel vector that takes the columns up to count, of which the last one is the first dependent one, or None."""
    used = [matrix[i] for i in indexes[:count]]
    numerators, den = solved([row[:count] for row in used], [[-row[count] for row in used]], prime)[0]
    vector = numerators + [den]
    for row in matrix:
        if inner(row[:count + 1], vector) != 0:
            return None
    return _spread(list(range(count + 1)), [Fraction(x) for x in vector], width)


def _inverse(matrix, scales, indexes, prime):
    """The rows of a left inverse that is 0 outside of the columns of the indexes."""
    size = len(indexes)
    units = [[1 if i == j else 0 for j in range(size)] for i in range(size)]
    parts = solved([matrix[i] for i in indexes], units, prime)
    lines = [[Fraction(numerators[j] * scales[i], den) for i, (numerators, den) in zip(indexes, parts)]
             for j in range(size)]
    return [_spread(indexes, line, len(matrix)) for line in lines]


def pivots_modulo(matrix, width, prime):
    """The pair (indexes, columns): a square part with an inverse modulo a prime number, as large as there is one.

    The columns are those that do not depend on earlier ones. The first indexes belong to the first columns.
    """
    rest = [(i, [x % prime for x in row[:width]]) for i, row in enumerate(matrix)]
    indexes = []
    columns = []
    for column in range(width):
        at = _first_unit([row for _, row in rest], prime)
        if at is None:
            rest = [(i, row[1:]) for i, row in rest]
        else:
            index, pivot = rest.pop(at)
            line = _divided(pivot, prime, prime)
            rest = [(i, _cleared(row, line, prime)) for i, row in rest]
            indexes.append(index)
            columns.append(column)
    return indexes, columns


def _first_unit(rows, prime):
    """The index of the first row that begins with a number which the prime number does not divide, or None."""
    for at, row in enumerate(rows):
        if row[0] % prime != 0:
            return at
    return None


def _divided(row, prime, modulus):
    """The entries behind the first one, divided by it."""
    inverse = inverse_of_unit(row[0], prime, modulus)
    return [x * inverse % modulus for x in row[1:]]


def _cleared(row, line, modulus):
    """The entries behind the first one, less so many times the line that the first one becomes 0."""
    share = row[0]
    if share == 0:
        return row[1:]
    return [(x - share * y) % modulus for x, y in zip(row[1:], line)]


def inverse_matrix(square, prime, modulus):
    """The inverse modulo a power of the prime number, of a square matrix that has one modulo the prime number."""
    size = len(square)
    rest = [[x % modulus for x in row] + [1 if i == j else 0 for j in range(size)] for i, row in enumerate(square)]
    found = []
    for _ in range(size):
        pivot = rest.pop(_first_unit(rest, prime))
        line = _divided(pivot, prime, modulus)
        rest = [_cleared(row, line, modulus) for row in rest]
        found = [_cleared(row, line, modulus) for row in found] + [line]
    return found


def solved(square, rights, prime):
    """A solution (numerators, den) for each right side, of a square matrix that has an inverse modulo the prime."""
    entry_bits = height([x for row in square for x in row]).bit_length()
    # Digits of about the size of the entries, so that few steps do much.
    modulus = power_of(prime, max(8, entry_bits // prime.bit_length() + 1))
    inverse = inverse_matrix(square, prime, modulus)
    found = []
    den = 1
    for right in rights:
        numerators, den = _lifted_solution(square, right, inverse, modulus, den)
        found.append((numerators, den))
    return found


def _lifted_solution(square, right, inverse, modulus, den):
    """The pair (numerators, den), found digit by digit; the denominator is a multiple of the given one."""
    rest = right
    residues = [0 for _ in right]
    scale = 1
    steps = 0
    try_at = 1
    while True:
        digits = [inner(row, rest) % modulus for row in inverse]
        rest = [(x - inner(row, digits)) // modulus for x, row in zip(rest, square)]
        residues = [residue + scale * digit for residue, digit in zip(residues, digits)]
        scale = scale * modulus
        steps = steps + 1
        if steps == try_at:
            try_at = steps * 3 // 2 + 1
            answer = common_fractions(residues, scale, den)
            if answer is not None and _solves(square, right, answer):
                return answer


def _solves(square, right, answer):
    numerators, den = answer
    for row, value in zip(square, right):
        if inner(row, numerators) != value * den:
            return False
    return True
