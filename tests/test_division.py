"""certsums.division: promise [9]."""

import itertools
import random
import unittest

from certsums.division import common_divisor, common_divisor_of, divide, exact, monic
from certsums.errors import ZeroPolynomial
from certsums.fraction import Fraction
from certsums.poly import Poly

HUGE = 10 ** 400 - 1
ZERO = Poly([])
ONE = Poly([1])


def random_poly(source, degree, size):
    coefs = [source.randint(-size, size) for _ in range(degree)] + [source.choice([-1, 1]) * source.randint(1, size)]
    return Poly(coefs, source.randint(1, size))


def divisor_by_remainders(p, q):
    while not q.is_zero:
        p, q = q, divide(p, q)[1]
    return monic(p)


class DivideTest(unittest.TestCase):
    def check(self, p, q):
        kept = (p.coefs, p.den, q.coefs, q.den)
        found = divide(p, q)
        self.assertIs(type(found), tuple)
        quotient, remainder = found
        self.assertEqual(quotient * q + remainder, p)
        self.assertLess(remainder.degree, q.degree)
        self.assertEqual(divide(p, q), found)
        self.assertEqual((p.coefs, p.den, q.coefs, q.den), kept)

    def test_example(self):
        quotient, remainder = divide(Poly([1, 0, 1]), Poly([1, 1]))
        self.assertEqual([quotient.coefs, remainder.coefs], [(-1, 1), (2,)])

    def test_random(self):
        source = random.Random(1)
        for _ in range(300):
            size = source.choice([1, 3, 20, HUGE])
            self.check(random_poly(source, source.randint(0, 7), size), random_poly(source, source.randint(0, 7), size))

    def test_bounds(self):
        source = random.Random(2)
        for degree in [0, 1, 20, 39, 40]:
            self.check(random_poly(source, 40, HUGE), random_poly(source, degree, HUGE))

    def test_smaller_degree_than_the_divisor(self):
        p = Poly([1, 2], 3)
        self.assertEqual(divide(p, Poly([0, 0, 5])), (ZERO, p))

    def test_zero_divided(self):
        for q in [Poly([7]), Poly([1, 1]), Poly([0, 0, 2], 3)]:
            self.assertEqual(divide(ZERO, q), (ZERO, ZERO))

    def test_constants(self):
        self.assertEqual(divide(Poly([1, 2]), Poly([2], 3)), (Poly([3, 6], 2), ZERO))
        self.assertEqual(divide(Poly([5], 7), Poly([-3])), (Poly([-5], 21), ZERO))
        self.assertEqual(divide(Poly([5]), Poly([0, 1])), (ZERO, Poly([5])))

    def test_by_zero(self):
        for p in [ZERO, ONE, Poly([1, 2, 3])]:
            with self.assertRaises(ZeroPolynomial):
                divide(p, ZERO)

    def test_exact(self):
        source = random.Random(3)
        for size in [2, 30, HUGE]:
            p, q = random_poly(source, 5, size), random_poly(source, 4, size)
            self.assertEqual(exact(p * q, q), p)
            self.assertEqual(exact(p * q, p), q)
            self.assertEqual(exact(p, p), ONE)
            self.assertEqual(exact(p, Poly([2], 3)), p.scaled(Fraction(3, 2)))
            self.assertEqual(exact(ZERO, p), ZERO)


class MonicTest(unittest.TestCase):
    def test_values(self):
        self.assertEqual(monic(Poly([3, -6], 5)), Poly([-1, 2], 2))
        self.assertEqual(monic(Poly([-4])), ONE)
        self.assertEqual(monic(Poly([5, 1])), Poly([5, 1]))
        self.assertEqual(monic(Poly([HUGE, 1, HUGE])), Poly([HUGE, 1, HUGE], HUGE))

    def test_zero(self):
        self.assertEqual(monic(ZERO), ZERO)

    def test_argument_stays(self):
        p = Poly([3, -6], 5)
        self.assertEqual(monic(p), monic(p))
        self.assertEqual((p.coefs, p.den), ((3, -6), 5))


class CommonDivisorTest(unittest.TestCase):
    def test_small_ones_against_remainders(self):
        polys = [Poly([a, b, c]) for a, b, c in itertools.product((-2, 0, 1, 3), repeat=3)]
        for p in polys:
            for q in polys:
                self.assertEqual(common_divisor(p, q), divisor_by_remainders(p, q))

    def test_products_against_remainders(self):
        source = random.Random(4)
        for _ in range(400):
            size = source.choice([1, 2, 9, 1000])
            g = random_poly(source, source.randint(0, 4), size)
            p = random_poly(source, source.randint(0, 4), size) * g
            q = random_poly(source, source.randint(0, 4), size) * g
            found = common_divisor(p, q)
            self.assertEqual(found, divisor_by_remainders(p, q))
            self.assertEqual(found.lead, Fraction(1))

    def test_one_or_both_zero(self):
        p = Poly([4, 6], 5)
        self.assertEqual(common_divisor(p, ZERO), Poly([2, 3], 3))
        self.assertEqual(common_divisor(ZERO, p), Poly([2, 3], 3))
        self.assertEqual(common_divisor(ZERO, ZERO), ZERO)
        self.assertEqual(common_divisor(ZERO, Poly([-7])), ONE)

    def test_constants(self):
        self.assertEqual(common_divisor(Poly([4]), Poly([6])), ONE)
        self.assertEqual(common_divisor(Poly([4]), Poly([4, 8])), ONE)

    def test_multiples_of_the_prime_that_is_tried_first(self):
        prime = 2 ** 61 - 1
        cases = [(Poly([1, prime]), Poly([2, prime])), (Poly([1, prime]), Poly([2, 2 * prime])),
                 (Poly([1, 1]), Poly([1 + prime, 1])), (Poly([1, 1]) * Poly([0, 1]), Poly([1 + prime, 1]) * Poly([3, 1])),
                 (Poly([prime, 1]), Poly([prime * prime, 0, -1])), (Poly([prime]), Poly([prime, 1]))]
        for p, q in cases:
            self.assertEqual(common_divisor(p, q), divisor_by_remainders(p, q))

    def test_values_with_a_large_common_divisor(self):
        # The values of both cofactors at the number that is tried first are divisible by that number.
        at = (1 << 24) + 29
        p = Poly([1, 1]) * Poly([0, 1])
        q = Poly([1, 1]) * Poly([at, 1])
        self.assertEqual(common_divisor(p, q), Poly([1, 1]))
        self.assertEqual(common_divisor(p, Poly([1, 1]) * Poly([at * at * HUGE, 1])), Poly([1, 1]))

    def test_divisors_with_the_value_1_at_many_numbers(self):
        for root in range(-100, 101):
            p, q = Poly([-root, 1]) * Poly([1000, 1]), Poly([-root, 1]) * Poly([1001, 1])
            self.assertEqual(common_divisor(p, q), Poly([-root, 1]))

    def test_divisors_with_larger_coefficients_than_their_multiples(self):
        # (x - 1) (x ** 2 - 1) .. (x ** 8 - 1) has smaller coefficients than its divisor (x + 1) ** 4 (x - 1) ** 8.
        p = Poly([1])
        for i in range(1, 9):
            p = p * Poly([-1] + [0] * (i - 1) + [1])
        g = Poly([1, 1]).power(4) * Poly([-1, 1]).power(8)
        self.assertEqual(common_divisor(p, g * Poly([2, 1])), g)
        self.assertEqual(common_divisor(Poly([-1] + [0] * 29 + [1]), Poly([-1] + [0] * 23 + [1])), Poly([-1] + [0] * 5 + [1]))

    def test_bounds(self):
        source = random.Random(5)
        for degree in [0, 1, 20, 39]:
            g = random_poly(source, degree, 10 ** 200)
            p = g * random_poly(source, 40 - degree, 10 ** 199)
            q = g * random_poly(source, 40 - degree, 10 ** 199)
            self.assertEqual(common_divisor(p, q), monic(g))
            self.assertEqual(common_divisor(q, p), monic(g))
        p = random_poly(source, 40, HUGE)
        self.assertEqual(common_divisor(p, p), monic(p))
        self.assertEqual(common_divisor(p, -p.scaled(Fraction(3, 7))), monic(p))

    def test_lists(self):
        self.assertEqual(common_divisor_of([]), ZERO)
        self.assertEqual(common_divisor_of([ZERO, ZERO]), ZERO)
        self.assertEqual(common_divisor_of([Poly([4, 6], 5)]), Poly([2, 3], 3))
        x, y, z = Poly([0, 1]), Poly([1, 1]), Poly([1, 2])
        for polys in itertools.permutations([x * y, y * z, z * x]):
            self.assertEqual(common_divisor_of(list(polys)), ONE)
        for polys in itertools.permutations([x * y * y, y * y * z, ZERO, z * y * x]):
            self.assertEqual(common_divisor_of(list(polys)), y)

    def test_arguments_stay(self):
        polys = [Poly([2, 2], 3), ZERO, Poly([1, 2, 1])]
        kept = list(polys)
        self.assertEqual(common_divisor_of(polys), common_divisor_of(polys))
        self.assertTrue(len(polys) == 3 and all(p is q for p, q in zip(polys, kept)))
        self.assertEqual([(p.coefs, p.den) for p in polys], [((2, 2), 3), ((), 1), ((1, 2, 1), 1)])


if __name__ == "__main__":
    unittest.main()
