"""Whole numbers, and polynomials as lists of whole coefficients, the power 0 first."""

from itertools import zip_longest
from math import gcd, isqrt, lcm

# Below this length, the plain product is faster than packing.
SHORT = 8

# So many bits of quotients are found at once in a search for a denominator.
CHUNK = 500

# Python itself refuses to write or to read numbers that have many more digits than these.
DIGITS = 1000


def power_of(base, exponent):
    """The whole number base to the power exponent >= 0."""
    found = 1
    while exponent > 0:
        if exponent & 1:
            found = found * base
        exponent = exponent >> 1
        if exponent > 0:
            base = base * base
    return found


def decimal(number):
    """The digits of a whole number, with a sign before them if it is negative."""
    if number < 0:
        return "-" + decimal(-number)
    # Less than 10 / 3 bits make a digit, so fewer bits make no more digits than the limit.
    if number.bit_length() <= 3 * DIGITS:
        return str(number)
    count = number.bit_length() * 3 // 20
    high, low = divmod(number, power_of(10, count))
    return decimal(high) + decimal(low).zfill(count)


def from_digits(digits):
    """The number with these digits, of which there is at least one."""
    if len(digits) <= DIGITS:
        return int(digits)
    count = len(digits) // 2
    return from_digits(digits[:-count]) * power_of(10, count) + from_digits(digits[-count:])


def total_of(parts, zero):
    """The sum of a list of values of any kind, zero if there are none."""
    if len(parts) == 0:
        return zero
    if len(parts) == 1:
        return parts[0]
    # Two halves keep the numbers of most of the sums small.
    middle = len(parts) // 2
    return total_of(parts[:middle], zero) + total_of(parts[middle:], zero)


def inverse_modulo(number, modulus):
    """The inverse of a number that is coprime to the modulus."""
    first, second = number % modulus, modulus
    factor, following = 1, 0
    while second != 0:
        share = first // second
        first, second = second, first - share * second
        factor, following = following, factor - share * following
    return factor % modulus


def inverse_of_unit(number, prime, modulus):
    """The inverse modulo a power of the prime number, of a number that it does not divide."""
    inverse = inverse_modulo(number, prime)
    known = prime
    while known < modulus:
        known = known * known
        inverse = inverse * (2 - number * inverse) % known
    return inverse % modulus


def next_prime(number):
    """The least prime number that is greater than number."""
    candidate = number + 1
    while not _is_prime(candidate):
        candidate = candidate + 1
    return candidate


def _is_prime(number):
    if number < 2:
        return False
    divisor = 2
    while divisor * divisor <= number:
        if number % divisor == 0:
            return False
        divisor = divisor + 1
    return True


def inner(first, second):
    """The sum of the products of the entries of two lists of equal length."""
    return sum([x * y for x, y in zip(first, second)])


def common_fractions(residues, modulus, den):
    """The pair (numerators, den) of fractions that have these remainders, or None if they seem to be larger.

    The denominator is a multiple of the given one. A pair is a guess, which is right if it passes a check, and which
    is right as soon as the modulus is large enough.
    """
    # Only if a denominator were greater than the fourth root, could a wrong numerator always be within this limit.
    limit = modulus >> (modulus.bit_length() // 4)
    bound = isqrt(modulus)
    parts = []
    for residue in residues:
        number = _nearest_zero(residue * den, modulus)
        if abs(number) > limit:
            if den > bound:
                return None
            den = den * _denominator(number, modulus, bound)
            number = _nearest_zero(residue * den, modulus)
        parts.append((number, den))
    return [number * (den // known) for number, known in parts], den


def _nearest_zero(number, modulus):
    rest = number % modulus
    return rest - modulus if 2 * rest > modulus else rest


def _denominator(residue, modulus, bound):
    """The denominator of the fraction with this remainder whose numerator is at most the bound."""
    high, low = modulus, residue % modulus
    before, factor = 0, 1
    while low > bound:
        first, second = _first_steps(high, low, bound)
        high, low = abs(first[0] * high - first[1] * low), abs(second[0] * high - second[1] * low)
        before, factor = first[0] * before + first[1] * factor, second[0] * before + second[1] * factor
    return factor


def _first_steps(high, low, bound):
    """Two pairs of factors, signs left out, that lead some divisions with remainder on, but none below the bound."""
    places = high.bit_length() - 2 * CHUNK
    if places <= 0 or low.bit_length() - bound.bit_length() <= CHUNK:
        return (0, 1), (1, high // low)
    # The leading digits tell the quotients as long as the factors are small against what is left.
    top, rest = high >> places, low >> places
    first, second = (1, 0), (0, 1)
    while rest > 0:
        share = top // rest
        third = (first[0] + share * second[0], first[1] + share * second[1])
        left = top - share * rest
        if left < third[1] or rest - left < third[1] + second[1]:
            break
        top, rest = rest, left
        first, second = second, third
    if first[1] == 0:
        return (0, 1), (1, high // low)
    return first, second


def common_den(parts):
    """The least common denominator of a list of values that have one, 1 for an empty list."""
    found = 1
    for part in parts:
        found = lcm(found, part.den)
    return found


def whole_coefs(polys):
    """The coefficients of polynomials times one number, a list of whole numbers for each of them."""
    den = common_den(polys)
    return [[c * (den // p.den) for c in p.coefs] for p in polys]


def common_factor(numbers):
    """The greatest common divisor of a list of whole numbers, 0 if all are 0."""
    found = 0
    for number in numbers:
        found = gcd(found, number)
        if found == 1:
            return 1
    return found


def trimmed(coefs):
    """A list of the coefficients without the zeros at the end."""
    length = len(coefs)
    while length > 0 and coefs[length - 1] == 0:
        length = length - 1
    return list(coefs[:length])


def primitive(coefs):
    """The coefficients, not all zero, divided by their greatest common divisor."""
    factor = common_factor(coefs)
    return [c // factor for c in coefs]


def height(coefs):
    """The greatest absolute value of a coefficient."""
    return max([abs(c) for c in coefs], default=0)


def evaluated(coefs, at):
    """The value at a whole number."""
    total = 0
    for c in reversed(coefs):
        total = total * at + c
    return total


def value_modulo(coefs, at, modulus):
    """The remainder of the value at a whole number."""
    total = 0
    for c in reversed(coefs):
        total = (total * at + c) % modulus
    return total


def derivative(coefs):
    """The coefficients of the derivative."""
    return [i * c for i, c in enumerate(coefs) if i > 0]


def shifted_coefs(coefs, step):
    """The coefficients of p(x + step)."""
    found = list(coefs)
    last = len(found) - 1
    for i in range(last):
        for j in range(last - 1, i - 1, -1):
            found[j] = found[j] + step * found[j + 1]
    return found


def added(first, second):
    """The coefficients of a sum."""
    return [x + y for x, y in zip_longest(first, second, fillvalue=0)]


def multiplied(first, second):
    """The coefficients of a product."""
    if min(len(first), len(second)) < SHORT:
        return _plain_product(first, second)
    # One product of two large numbers is faster than very many of small ones.
    largest = height(first) * height(second) * min(len(first), len(second))
    bits = largest.bit_length() + 2
    number = _packed(first, bits) * _packed(second, bits)
    return _unpacked(number, bits, len(first) + len(second) - 1)


def _plain_product(first, second):
    if len(first) == 0 or len(second) == 0:
        return []
    found = [0 for _ in range(len(first) + len(second) - 1)]
    for i, x in enumerate(first):
        if x != 0:
            for j, y in enumerate(second):
                found[i + j] = found[i + j] + x * y
    return found


def _packed(coefs, bits):
    """The value at 2 to the power bits, of a list that is not empty."""
    parts = list(coefs)
    while len(parts) > 1:
        if len(parts) & 1:
            parts.append(0)
        parts = [parts[i] + (parts[i + 1] << bits) for i in range(0, len(parts), 2)]
        bits = 2 * bits
    return parts[0]


def _unpacked(number, bits, count):
    """The count coefficients, of absolute value below 2 ** (bits - 1), that _packed made the number from."""
    parts = [number]
    length = 1
    while length < count:
        length = 2 * length
    while length > 1:
        length = length // 2
        parts = [half for part in parts for half in _halves(part, bits * length)]
    return parts[:count]


def _halves(number, bits):
    """The pair (low, high) with number = low + high 2 ** bits, where low may be negative."""
    low = number & ((1 << bits) - 1)
    if low >> (bits - 1):
        low = low - (1 << bits)
    return low, (number - low) >> bits


def powered(coefs, exponent):
    """The coefficients of the power, of coefficients without zeros at the end."""
    if exponent == 0:
        return [1]
    if len(coefs) == 0:
        return []
    zeros = 0
    while coefs[zeros] == 0:
        zeros = zeros + 1
    first = coefs[zeros]
    terms = [(i - zeros, c) for i, c in enumerate(coefs) if i > zeros and c != 0]
    found = [power_of(first, exponent)]
    # The power q of p satisfies p q' = exponent p' q, which gives each coefficient from those before it.
    for k in range(1, exponent * (len(coefs) - 1 - zeros) + 1):
        total = sum([((exponent + 1) * i - k) * c * found[k - i] for i, c in terms if i <= k])
        found.append(total // (k * first))
    return [0] * (zeros * exponent) + found


def coprime_modulo(first, second, prime):
    """Whether it is certain, from their remainders, that two nonzero polynomials have no common divisor."""
    if first[-1] % prime == 0 and second[-1] % prime == 0:
        return False
    return len(divisor_modulo(first, second, prime)) == 1


def divisor_modulo(first, second, prime):
    """A greatest common divisor modulo a prime number."""
    high = remainders(first, prime)
    low = remainders(second, prime)
    while len(low) > 0:
        _, rest = divided_modulo(high, low, prime)
        high, low = low, rest
    return high


def remainders(coefs, modulus):
    """The coefficients modulo a number, without the zeros at the end."""
    return trimmed([c % modulus for c in coefs])


def monic_modulo(coefs, modulus):
    """The coefficients divided by the last one, which has an inverse."""
    factor = inverse_modulo(coefs[-1], modulus)
    return [c * factor % modulus for c in coefs]


def divided_modulo(first, second, modulus):
    """The pair (quotient, rest), where the last coefficient of the divisor has an inverse."""
    inverse = inverse_modulo(second[-1], modulus)
    rest = list(first)
    quotient = [0 for _ in range(len(first) - len(second) + 1)]
    for at in range(len(first) - len(second), -1, -1):
        share = rest[at + len(second) - 1] * inverse % modulus
        quotient[at] = share
        if share != 0:
            for i, c in enumerate(second):
                rest[at + i] = (rest[at + i] - share * c) % modulus
    return quotient, trimmed(rest)


def product_modulo(first, second, divisor, modulus):
    """The rest of a product of two polynomials."""
    _, rest = divided_modulo(remainders(multiplied(first, second), modulus), divisor, modulus)
    return rest


def power_modulo(coefs, exponent, divisor, modulus):
    """The rest of a power, of a polynomial with an exponent >= 0."""
    _, base = divided_modulo(coefs, divisor, modulus)
    found = [1]
    while exponent > 0:
        if exponent & 1:
            found = product_modulo(found, base, divisor, modulus)
        exponent = exponent >> 1
        if exponent > 0:
            base = product_modulo(base, base, divisor, modulus)
    return found
