"""Distances of two polynomials, and certificates that tell where they are coprime.

If h is a distance of a and b, a factor of a is a factor of b after a shift by h. So the factors of both modulo a prime
number are lifted to a power of it that is greater than each distance, and their second coefficients tell the shifts.
"""

from certsums.division import common_divisor, common_divisor_of, exact
from certsums.errors import ZeroPolynomial
from certsums.fraction import Fraction
from certsums.intlists import added, derivative, height, multiplied, next_prime, power_of, shifted_coefs, trimmed
from certsums.intlists import coprime_modulo, divided_modulo, divisor_modulo, inverse_of_unit, monic_modulo
from certsums.intlists import power_modulo, remainders
from certsums.margin import without_multiple_roots
from certsums.poly import Poly
from certsums.poly2 import Poly2
from certsums.polysystems import poly_kernel

# Up to this degree, a resultant is found faster than the smallest polynomial that takes its place.
FEW = 200


def distances(a, b):
    """The whole numbers h >= 0 for which a(k) and b(k + h) are not coprime, ascending."""
    _refuse_zero(a, b)
    if a.degree == 0 or b.degree == 0:
        return []
    first = without_multiple_roots(a)
    second = without_multiple_roots(b)
    return [h for h in _possible_distances(first.coefs, second.coefs)
            if common_divisor(first, second.shifted(h)).degree > 0]


def _refuse_zero(a, b):
    if a.is_zero or b.is_zero:
        raise ZeroPolynomial("the zero polynomial has no distances")


def _possible_distances(first, second):
    """Some numbers h >= 0, ascending, with all distances of two polynomials without multiple roots among them."""
    prime = _separating_prime(first, second)
    bound = _root_bound(first) + _root_bound(second)
    modulus = prime
    # Some digits more, so that hardly a number within the bound is found by chance.
    while modulus >> 32 <= bound:
        modulus = modulus * prime
    known = {}
    for degree, part in _parts_by_degree(first, prime):
        for other_degree, other_part in _parts_by_degree(second, prime):
            if degree == other_degree:
                inverse = inverse_of_unit(degree, prime, modulus)
                offsets = _offsets(first, part, degree, prime, modulus)
                for offset in _offsets(second, other_part, degree, prime, modulus):
                    for h in [(x - offset) * inverse % modulus for x in offsets]:
                        known[h] = True
    return sorted([h for h in known if h <= bound])


def _separating_prime(first, second):
    """A prime number modulo which both have all their roots and no multiple ones, greater than the squared degrees."""
    prime = next_prime(max(len(first), len(second)) * max(len(first), len(second)))
    while not (_keeps_roots(first, prime) and _keeps_roots(second, prime)):
        prime = next_prime(prime)
    return prime


def _keeps_roots(coefs, prime):
    return coprime_modulo(coefs, derivative(coefs), prime)


def _root_bound(coefs):
    """A number that is greater than the absolute value of each complex root."""
    return height(coefs) // abs(coefs[-1]) + 2


def _parts_by_degree(coefs, prime):
    """Pairs (d, product of all irreducible factors of degree d modulo the prime number) with nonconstant products."""
    rest = monic_modulo(remainders(coefs, prime), prime)
    found = []
    power = [0, 1]
    degree = 1
    while len(rest) > 2 * degree:
        # An irreducible polynomial of degree d divides x ** (prime ** d) - x.
        power = power_modulo(power, prime, rest, prime)
        part = monic_modulo(divisor_modulo(rest, added(power, [0, -1]), prime), prime)
        if len(part) > 1:
            found.append((degree, part))
            rest, _ = divided_modulo(rest, part, prime)
            _, power = divided_modulo(power, rest, prime)
        degree = degree + 1
    if len(rest) > 1:
        found.append((len(rest) - 1, rest))
    return found


def _offsets(coefs, part, degree, prime, modulus):
    """The second coefficients of the factors of this degree modulo a power of the prime number."""
    whole = monic_modulo(coefs, modulus)
    factors = _irreducible_factors(part, degree, prime)
    return [_lifted_factor(whole, factor, prime, modulus)[degree - 1] for factor in factors]


def _irreducible_factors(part, degree, prime):
    """The factors of a product of different irreducible polynomials of this degree modulo an odd prime number."""
    exponent = (power_of(prime, degree) - 1) // 2
    factors = [part]
    offset = 0
    # As the prime number is greater than the squared degree, each two factors come apart at one of its remainders.
    while len(factors) * degree < len(part) - 1:
        factors = [piece for factor in factors for piece in _pieces(factor, offset, exponent, degree, prime)]
        offset = offset + 1
    return factors


def _pieces(factor, offset, exponent, degree, prime):
    """The factors of one, or of the two parts modulo which x + offset is a square and is none."""
    if len(factor) == degree + 1:
        return [factor]
    power = power_modulo([offset, 1], exponent, factor, prime)
    piece = monic_modulo(divisor_modulo(factor, added(power, [-1]), prime), prime)
    other, _ = divided_modulo(factor, piece, prime)
    return [p for p in (piece, other) if len(p) > 1]


def _lifted_factor(whole, factor, prime, modulus):
    """The monic factor of a monic polynomial modulo a power of the prime number, from an irreducible one modulo it."""
    cofactor, _ = divided_modulo([c % prime for c in whole], factor, prime)
    # Modulo the factor, the power with this exponent is the inverse.
    inverse = power_modulo(cofactor, power_of(prime, len(factor) - 1) - 2, factor, prime)
    while True:
        _, rest = divided_modulo(whole, factor, modulus)
        if len(rest) == 0:
            return factor
        _, change = divided_modulo(remainders(multiplied(rest, inverse), modulus), factor, modulus)
        factor = [c % modulus for c in added(factor, change)]


def coprime_certificate(a, b):
    """The triple (u, v, r) with u(h, k) a(k) + v(h, k) b(k + h) = r(h), which is 0 where these are not coprime."""
    _refuse_zero(a, b)
    if a.degree == 0:
        return Poly2([Poly([1])]), Poly2([]), a
    if b.degree == 0:
        return Poly2([]), Poly2([Poly([1])]), b
    if a.degree * b.degree <= FEW:
        polys = _resultant_with_factors(a.coefs, b.coefs)
    else:
        polys = _smallest_factors(a.coefs, b.coefs)
    # Without a common divisor, r is 0 only where it must be: elsewhere the degrees leave no other u and v than 0.
    divisor = common_divisor_of(polys)
    polys = [exact(p, divisor) for p in polys]
    u = [p.scaled(Fraction(a.den)) for p in polys[:b.degree]]
    v = [p.scaled(Fraction(b.den)) for p in polys[b.degree:-1]]
    return Poly2(u), Poly2(v), polys[-1]


def _resultant_with_factors(first, second):
    """Polynomials in h: the coefficients of u and of v, and r, for two lists of whole coefficients."""
    size = len(first) + len(second) - 2
    count = (len(first) - 1) * (len(second) - 1) + 1
    points = []
    values = []
    h = -(count // 2)
    while len(points) < count:
        answer = _resultant_parts(first, shifted_coefs(second, h))
        if answer is not None:
            u, v, r = answer
            points.append(h)
            values.append(u + [0 for _ in range(len(second) - 1 - len(u))] + v
                          + [0 for _ in range(len(first) - 1 - len(v))] + [r])
        h = h + 1
    return [Poly(_interpolated(points, [row[i] for row in values])) for i in range(size + 1)]


def _resultant_parts(first, second):
    """The lists u and v and the number r with u first + v second = r, the resultant up to a fixed sign, or None if 0.

    These are the subresultants of Collins and Brown, with their factors.
    """
    high, low = (list(first), [1], []), (second, [], [1])
    if len(first) < len(second):
        high, low = low, high
    sign, lead, scale = 1, 1, 1
    while len(low[0]) > 1:
        drop = len(high[0]) - len(low[0])
        if len(high[0]) % 2 == 0 and len(low[0]) % 2 == 0:
            sign = -sign
        quotient, factor = _pseudo_quotient(high[0], low[0])
        divisor = lead * power_of(scale, drop)
        high, low = low, [_combined(factor, x, quotient, y, divisor) for x, y in zip(high, low)]
        if len(low[0]) == 0:
            return None
        lead = high[0][-1]
        scale = power_of(lead, drop) * scale // power_of(scale, drop)
    rest = len(high[0]) - 2
    factor = sign * power_of(low[0][0], rest)
    divisor = power_of(scale, rest)
    r, u, v = [[c * factor // divisor for c in coefs] for coefs in low]
    return u, v, r[0]


def _pseudo_quotient(first, second):
    """The pair (quotient, factor) for the whole division of the first polynomial times the factor by the second."""
    lead = second[-1]
    rest = list(first)
    quotient = [0 for _ in range(len(first) - len(second) + 1)]
    factor = 1
    for at in range(len(first) - len(second), -1, -1):
        share = rest[at + len(second) - 1]
        rest = [c * lead for c in rest]
        quotient = [c * lead for c in quotient]
        factor = factor * lead
        quotient[at] = share
        for i, c in enumerate(second):
            rest[at + i] = rest[at + i] - share * c
    return quotient, factor


def _combined(factor, first, quotient, second, divisor):
    """(factor first - quotient second) / divisor, which has whole coefficients."""
    product = [-c for c in multiplied(quotient, second)]
    return trimmed([c // divisor for c in added([c * factor for c in first], product)])


def _interpolated(points, values):
    """The whole coefficients of a polynomial with these values at different whole numbers."""
    slopes = list(values)
    for gap in range(1, len(points)):
        for i in range(len(points) - 1, gap - 1, -1):
            slopes[i] = (slopes[i] - slopes[i - 1]) // (points[i] - points[i - gap])
    found = []
    for point, slope in zip(points[::-1], slopes[::-1]):
        found = added([0] + found, [-point * c for c in found])
        found = added(found, [slope])
    return found


def _smallest_factors(first, second):
    """The same as _resultant_with_factors without a common divisor, which can have a much lower degree."""
    moved = Poly2.of_sum(Poly(second)).rows
    columns = [[Poly([]) for _ in range(i)] + [Poly([c]) for c in first] for i in range(len(second) - 1)]
    columns = columns + [[Poly([]) for _ in range(i)] + list(moved) for i in range(len(first) - 1)]
    columns = columns + [[Poly([-1])]]
    rows = [[column[e] if e < len(column) else Poly([]) for column in columns] for e in range(len(columns) - 1)]
    _, vector = poly_kernel(rows, len(columns))
    return vector
