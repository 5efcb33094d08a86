"""certsums.distance: promises [22] and [23], and [2] for what is passed in and returned."""

import itertools
import random
import unittest

from certsums.distance import coprime_certificate, distances
from certsums.division import common_divisor
from certsums.errors import ZeroPolynomial
from certsums.fraction import Fraction
from certsums.poly import Poly
from certsums.poly2 import Poly2

HUGE = 10 ** 400 - 1
ZERO = Poly([])
ONE = Poly([1])


def with_roots(roots):
    found = ONE
    for root in roots:
        found = found * Poly([-root, 1])
    return found


def random_poly(source, degree, size, den=1):
    coefs = [source.randint(-size, size) for _ in range(degree)] + [source.choice([-1, 1]) * source.randint(1, size)]
    return Poly(coefs, source.randint(1, den))


def are_coprime(a, b, h):
    return common_divisor(a, b.shifted(h)) == ONE


class DistancesTest(unittest.TestCase):
    def check(self, a, b, last=30):
        kept = (a.coefs, a.den, b.coefs, b.den)
        found = distances(a, b)
        self.assertEqual([h for h in found if h <= last], [h for h in range(last + 1) if not are_coprime(a, b, h)])
        self.assertEqual(found, sorted(set(found)))
        self.assertTrue(all(type(h) is int and h >= 0 and not are_coprime(a, b, h) for h in found))
        self.assertEqual(distances(a, b), found)
        self.assertEqual((a.coefs, a.den, b.coefs, b.den), kept)
        return found

    def test_example(self):
        self.assertEqual(distances(Poly([0, 1]), Poly([-3, 1])), [3])
        self.assertEqual(distances(Poly([-3, 1]), Poly([0, 1])), [])

    def test_linear(self):
        for x, y in itertools.product(range(-4, 5), repeat=2):
            self.assertEqual(self.check(Poly([-x, 1]), Poly([-2 * y, 2], 3)), [y - x] if y >= x else [])

    def test_distance_0(self):
        p = Poly([1, 0, 1])
        self.assertEqual(self.check(p, p), [0])
        self.assertEqual(self.check(with_roots([2, 5]), with_roots([2, 5])), [0, 3])

    def test_constants_have_none(self):
        for a, b in [(ONE, ONE), (ONE, Poly([0, 1])), (Poly([0, 1]), Poly([5], 3)), (Poly([7]), Poly([1, 2, 3]))]:
            self.assertEqual(distances(a, b), [])

    def test_fractions_between_the_roots(self):
        # The roots differ by 1/2, by a square root of 2, or by a number that is not real.
        self.assertEqual(self.check(Poly([0, 1]), Poly([-1, 2])), [])
        self.assertEqual(self.check(Poly([0, 1]), Poly([-2, 0, 1])), [])
        self.assertEqual(self.check(Poly([0, 1]), Poly([1, 0, 1])), [])
        self.assertEqual(self.check(Poly([1, 2]), Poly([-9, 2])), [5])

    def test_irreducible_factors(self):
        for p in [Poly([-2, 0, 1]), Poly([1, 1, 0, 1]), Poly([1, 0, 0, 0, 1]), Poly([1, 1, 1, 1, 1])]:
            for h in [1, 6]:
                self.assertEqual(self.check(p, p.shifted(-h)), [h])
                self.assertEqual(self.check(p, p.shifted(h)), [])
                self.assertEqual(self.check(p * Poly([0, 1]), p.shifted(-h) * Poly([-2, 1])), sorted({2, h}))

    def test_factors_modulo_every_prime_number(self):
        # One of its quadratic factors has a root modulo each prime number.
        p = Poly([-2, 0, 1]) * Poly([-3, 0, 1]) * Poly([-6, 0, 1])
        self.assertEqual(self.check(p, Poly([0, 1])), [])
        self.assertEqual(self.check(p * Poly([3, 1]), p * Poly([0, 1])), [0, 3])
        self.assertEqual(self.check(Poly([1, 0, -10, 0, 1]), Poly([1, 0, -10, 0, 1]).shifted(-4)), [4])

    def test_multiple_roots(self):
        self.assertEqual(self.check(with_roots([1, 1, 1, 4]), with_roots([3, 3, 4, 4])), [0, 2, 3])
        self.assertEqual(self.check(with_roots([1] * 40), with_roots([18] * 40)), [17])

    def test_random(self):
        source = random.Random(1)
        others = [ONE, Poly([1, 0, 1]), Poly([-2, 0, 1]), Poly([1, 1, 0, 1]), Poly([1, 2])]
        for _ in range(200):
            roots = [[source.randint(-5, 5) for _ in range(source.randint(0, 3))] for _ in range(2)]
            a = with_roots(roots[0]) * source.choice(others)
            b = with_roots(roots[1]) * source.choice(others).shifted(source.randint(-3, 3))
            self.check(a.scaled(Fraction(source.choice([-3, 1]), source.choice([1, 7]))), b)

    def test_bounds(self):
        source = random.Random(2)
        steps = with_roots(range(40))
        self.assertEqual(self.check(steps, steps.shifted(-7), 60), list(range(47)))
        far = [[source.randint(-10 ** 8, 10 ** 8) for _ in range(12)] for _ in range(2)]
        expected = sorted({y - x for x in far[0] for y in far[1] if y >= x})
        self.assertEqual(distances(with_roots(far[0]), with_roots(far[1])), expected)
        p = random_poly(source, 40, HUGE, HUGE)
        self.assertEqual(distances(p, p.shifted(-999999999)), [999999999])
        self.assertEqual(distances(p, p.shifted(1)), [])
        self.assertEqual(distances(p, random_poly(source, 40, HUGE, HUGE)), [])
        q, r = random_poly(source, 20, 9), random_poly(source, 20, 9)
        self.assertEqual(self.check(q * r, q.shifted(-5) * r.shifted(-8)), [5, 8])
        self.assertEqual(distances(Poly([0, 1]), Poly([-HUGE, 1])), [HUGE])

    def test_zero_polynomials(self):
        for a, b in [(ZERO, ONE), (ONE, ZERO), (ZERO, ZERO), (Poly([0, 1]), ZERO), (ZERO, Poly([0, 1]))]:
            with self.assertRaises(ZeroPolynomial):
                distances(a, b)

    def test_results_may_be_changed(self):
        a, b = with_roots([0, 1]), with_roots([4, 9])
        found = distances(a, b)
        found.clear()
        self.assertEqual(distances(a, b), [3, 4, 8, 9])


class CoprimeCertificateTest(unittest.TestCase):
    def check(self, a, b, numbers=range(-12, 13)):
        kept = (a.coefs, a.den, b.coefs, b.den)
        found = coprime_certificate(a, b)
        self.assertIs(type(found), tuple)
        u, v, r = found
        self.assertTrue(isinstance(u, Poly2) and isinstance(v, Poly2) and isinstance(r, Poly))
        self.assertEqual(u * Poly2.in_k(a) + v * Poly2.of_sum(b), Poly2.in_n(r))
        self.assertFalse(r.is_zero)
        for h in numbers:
            self.assertEqual(r.at(h).is_zero, not are_coprime(a, b, h), h)
        self.assertEqual(coprime_certificate(a, b), found)
        self.assertEqual((a.coefs, a.den, b.coefs, b.den), kept)
        return r

    def test_linear(self):
        for x, y in itertools.product(range(-3, 4), repeat=2):
            self.check(Poly([-x, 1]), Poly([-2 * y, 2], 3))
        self.check(Poly([1, 2]), Poly([0, 1]))

    def test_constants(self):
        for a, b in [(ONE, ONE), (Poly([5], 3), Poly([1, 2])), (Poly([1, 2, 3]), Poly([-7])), (Poly([2]), Poly([3]))]:
            self.assertEqual(self.check(a, b).degree, 0)

    def test_all_small_polynomials(self):
        polys = [Poly([a, b, c]) for a, b, c in itertools.product((-1, 0, 2), repeat=3)]
        polys = [p for p in polys if not p.is_zero]
        for a, b in itertools.product(polys, repeat=2):
            self.check(a, b, range(-5, 6))

    def test_degrees_that_drop_by_more_than_1(self):
        # The remainders of these have no degrees 3, 2 or 1 at h = 0, and others elsewhere.
        self.check(Poly([1, 0, 0, 0, 1]), Poly([2, 0, 0, 0, 1]))
        self.check(Poly([1, 0, 0, 0, 0, 2]), Poly([2, 0, 0, 0, 0, 3]))
        self.check(Poly([1, 0, 0, 0, 0, 2]), Poly([2, 0, 0, 3]))
        self.check(Poly([2, 0, 0, 3]), Poly([1, 0, 0, 0, 0, 2]))
        self.check(Poly([0, 0, 0, 1]), Poly([-1, 0, 0, 0, 0, 0, 1]))
        # At h = 0 or h = 1, the degree drops to 0 at once, with leading coefficients that are not 1.
        p = Poly([2, 0, 0, 3])
        self.check(p * Poly([1, 1]) + Poly([5]), p)
        self.check(p, p * Poly([1, 1, 2]) + Poly([5]))
        q = p * Poly([1, 0, 2]) + Poly([7])
        self.check(q, p.shifted(-1) * Poly([4]))
        self.check(q * Poly([3, 5]) + p, q)
        self.check(q, (q * Poly([3, 0, 5]) + p).shifted(-1))

    def test_random(self):
        source = random.Random(1)
        others = [ONE, Poly([1, 0, 1]), Poly([-2, 0, 1], 5), Poly([1, 1, 0, 1]), Poly([1, 2])]
        for _ in range(150):
            roots = [[source.randint(-5, 5) for _ in range(source.randint(0, 3))] for _ in range(2)]
            a = with_roots(roots[0]) * source.choice(others)
            b = with_roots(roots[1]) * source.choice(others).shifted(source.randint(-3, 3))
            self.check(a.scaled(Fraction(source.choice([-3, 1]), source.choice([1, 7]))), b)

    def test_multiple_roots(self):
        self.check(with_roots([0, 0, 0, 2]), with_roots([1, 1, 4, 4, 4]))
        self.check(with_roots([0] * 12), with_roots([3] * 12))
        # The degrees of these have a product beyond which another way is taken.
        self.check(with_roots([0] * 20), with_roots([3] * 20))
        self.check(with_roots([0] * 15 + [5]), with_roots([3] * 14 + [7]) * Poly([1, 2], 3))

    def test_bounds(self):
        source = random.Random(2)
        self.check(with_roots(range(40)), with_roots([20, 22]), [-40, -23, -22, 0, 1, 19, 20, 22, 23, 30])
        self.check(random_poly(source, 6, HUGE, HUGE), random_poly(source, 5, HUGE, HUGE), [0])
        self.check(random_poly(source, 40, 9, 9), random_poly(source, 1, 10 ** 50, 9), [0])
        self.check(random_poly(source, 1, HUGE, HUGE), random_poly(source, 10, 9, 9), [0])
        self.check(random_poly(source, 15, 9, 9), random_poly(source, 14, 9, 9), [0])
        p = random_poly(source, 3, HUGE, HUGE)
        self.check(p, p.shifted(-2), [1, 2, 3])

    def test_zero_polynomials(self):
        for a, b in [(ZERO, ONE), (ONE, ZERO), (ZERO, ZERO), (Poly([0, 1]), ZERO), (ZERO, Poly([0, 1]))]:
            with self.assertRaises(ZeroPolynomial):
                coprime_certificate(a, b)


if __name__ == "__main__":
    unittest.main()
