"""Whole roots of polynomials, and the numbers from which the signs are settled."""

from certsums.division import common_divisor, exact
from certsums.errors import ZeroPolynomial
from certsums.intlists import derivative, evaluated, height, inverse_modulo, next_prime, shifted_coefs, value_modulo
from certsums.poly import Poly


def settled_from(p, *, start):
    """The least whole number, not less than start, from which p is settled."""
    _refuse_zero(p)
    rest = shifted_coefs(p.coefs, start)
    if _is_settled(rest):
        return start
    # From here on, the polynomial with the coefficients rest is not settled from 0.
    behind = start
    for e in range(_root_bits(rest) - 1, -1, -1):
        later = _shifted_by_power_of_two(rest, e)
        if not _is_settled(later):
            rest = later
            behind = behind + (1 << e)
    return behind + 1


def _refuse_zero(p):
    if p.is_zero:
        raise ZeroPolynomial("the zero polynomial has no settled sign and every number as a root")


def _is_settled(coefs):
    if coefs[0] == 0:
        return False
    return min(coefs) >= 0 or max(coefs) <= 0


def _root_bits(coefs):
    """A number e such that all complex roots are less than 2 ** e in absolute value.

    So no derivative has a real root from there on, and the polynomial is settled from 2 ** e.
    """
    degree = len(coefs) - 1
    lead_bits = coefs[-1].bit_length() - 1
    # The roots are less than 2 m if each ratio to the leading coefficient is at most m ** (degree - i).
    bits = [-((lead_bits - c.bit_length()) // (degree - i)) for i, c in enumerate(coefs) if i < degree]
    return 1 + max(0, max(bits))


def _shifted_by_power_of_two(coefs, e):
    """The coefficients of p(x + 2 ** e), by additions only."""
    scaled = [c << (e * i) for i, c in enumerate(coefs)]
    return [c >> (e * i) for i, c in enumerate(shifted_coefs(scaled, 1))]


def roots_between(p, *, low, high):
    """The whole roots r with low <= r <= high, ascending."""
    _refuse_zero(p)
    return [root for root in _whole_roots(p) if low <= root <= high]


def roots_from(p, *, start):
    """The whole roots r with r >= start, ascending."""
    _refuse_zero(p)
    return [root for root in _whole_roots(p) if root >= start]


def free_from(p, *, start):
    """The least whole number m, not less than start, such that p has no whole root from m on."""
    return max([start] + [root + 1 for root in roots_from(p, start=start)])


def _whole_roots(p):
    """All whole roots, each one as the lift of a root modulo a prime number."""
    if p.degree < 1:
        return []
    simple = without_multiple_roots(p)
    prime, residues = _prime_with_simple_roots(simple.coefs)
    lifts = [_lifted(simple.coefs, residue, prime) for residue in residues]
    return sorted([root for root in lifts if evaluated(simple.coefs, root) == 0])


def without_multiple_roots(p):
    """The polynomial p, not constant, divided by a polynomial so that it keeps each complex root once."""
    return exact(p, common_divisor(p, Poly(derivative(p.coefs))))


def _prime_with_simple_roots(coefs):
    """A prime number, and the roots modulo it of a polynomial without multiple roots, all of them simple."""
    slopes = derivative(coefs)
    degree = len(coefs) - 1
    # Modulo a prime of about this size, the roots are likely to stay distinct.
    prime = next_prime(degree * min(degree, 40))
    while True:
        residues = _roots_modulo(coefs, prime)
        if min([evaluated(slopes, residue) % prime for residue in residues], default=1) > 0:
            return prime, residues
        prime = next_prime(prime)


def _roots_modulo(coefs, prime):
    small = [c % prime for c in coefs]
    return [residue for residue in range(prime) if evaluated(small, residue) % prime == 0]


def _lifted(coefs, residue, prime):
    """The only number within the bound of the roots that can be a root and has this residue."""
    bound = height(coefs) // abs(coefs[-1]) + 1
    slopes = derivative(coefs)
    root = residue
    modulus = prime
    inverse = inverse_modulo(evaluated(slopes, root), prime)
    while modulus <= 2 * bound:
        modulus = modulus * modulus
        root = (root - value_modulo(coefs, root, modulus) * inverse) % modulus
        inverse = inverse * (2 - value_modulo(slopes, root, modulus) * inverse) % modulus
    return root if 2 * root < modulus else root - modulus
