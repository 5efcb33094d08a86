"""certsums.degree: promise [25]."""

import itertools
import random
import unittest

from certsums.degree import degree_bound
from certsums.errors import ZeroPolynomial
from certsums.fraction import Fraction
from certsums.poly import Poly

HUGE = 10 ** 400 - 1
ONE = Poly([1])
K = Poly([0, 1])


def by_definition(a, b, c):
    p, s = a - b.shifted(-1), a + b.shifted(-1)
    if p.degree >= s.degree:
        return max(-1, c.degree - p.degree)
    results = [c.degree - s.degree + 1]
    second = Fraction(-2) * p.coefficient(s.degree - 1).over(s.lead)
    if second.den == 1:
        results.append(second.num)
    return max(-1, max(results))


class DegreeBoundTest(unittest.TestCase):
    def test_example(self):
        self.assertEqual(degree_bound(ONE, ONE, ONE), 1)

    def test_greater_degree_of_the_difference(self):
        self.assertEqual(degree_bound(Poly([2]), ONE, Poly([0, 0, 1])), 2)
        self.assertEqual(degree_bound(K * K, ONE, Poly([0, 0, 1])), 0)
        # a = -b(k - 1), so the sum is zero.
        self.assertEqual(degree_bound(-ONE, ONE, Poly([0, 1])), 1)
        self.assertEqual(degree_bound(Poly([1, -1]), K, Poly([0, 1, 1])), 1)

    def test_equal_polynomials(self):
        # a = b(k - 1), so the difference is zero.
        self.assertEqual(degree_bound(Poly([-1, 1]), K, Poly([0, 0, 1])), 2)
        self.assertEqual(degree_bound(Poly([-1, 1]), K, ONE), 0)

    def test_second_number_is_the_greater_one(self):
        # p = -6, s = 2 k - 8: -2 q / 2 is 6.
        self.assertEqual(degree_bound(Poly([-7, 1]), K, ONE), 6)
        self.assertEqual(degree_bound(Poly([-7, 1]), K, Poly([0] * 20 + [1])), 20)

    def test_second_number_counts_only_if_it_is_whole(self):
        self.assertEqual(degree_bound(Poly([-15, 2], 2), K, ONE), 0)
        self.assertEqual(degree_bound(Poly([-14, 2], 2), K, ONE), 6)
        self.assertEqual(degree_bound(Poly([-19, 2], 3), Poly([0, 2], 3), Poly([5])), 0)

    def test_negative_results(self):
        self.assertEqual(degree_bound(Poly([0, 2]), ONE, ONE), -1)
        self.assertEqual(degree_bound(Poly([0, 0, 0, 0, 2]), ONE, ONE), -1)
        self.assertEqual(degree_bound(Poly([0, 0, 1, 1]), Poly([0, 0, 0, 1]).shifted(1), ONE), -1)
        self.assertEqual(degree_bound(Poly([0, 0, 4, 1]), Poly([0, 0, 0, 1]).shifted(1), ONE), -1)
        self.assertEqual(degree_bound(Poly([1, 0, 0, 1]), Poly([0, 0, 0, 1]).shifted(1), ONE), 0)

    def test_against_the_definition(self):
        polys = [Poly(coefs, den) for coefs in itertools.product((-2, 0, 1), repeat=3) for den in (1, 3)]
        polys = [p for p in polys if not p.is_zero]
        for a, b in itertools.product(polys, repeat=2):
            for c in [ONE, Poly([0, 1]), Poly([1, 0, 0, 0, 1])]:
                self.assertEqual(degree_bound(a, b, c), by_definition(a, b, c))
        source = random.Random(1)
        for _ in range(300):
            b = Poly([source.randint(-9, 9) for _ in range(3)] + [source.randint(1, 9)])
            a = b.shifted(-1) + Poly([source.randint(-20, 20) for _ in range(3)])
            c = Poly([source.randint(1, 9)] * source.randint(1, 5))
            self.assertEqual(degree_bound(a, b, c), by_definition(a, b, c))

    def test_bounds_the_degrees_of_solutions(self):
        source = random.Random(2)
        for _ in range(300):
            a, b, x = [Poly([source.randint(-3, 3) for _ in range(source.randint(1, 5))]) for _ in range(3)]
            if source.random() < 0.5:
                a = b.shifted(-1) + Poly([source.randint(-9, 9)])
            c = a * x.shifted(1) - b.shifted(-1) * x
            if not (a.is_zero or b.is_zero or c.is_zero):
                self.assertGreaterEqual(degree_bound(a, b, c), x.degree)

    def test_large_numbers(self):
        self.assertEqual(degree_bound(Poly([-HUGE - 1, 1]), K, ONE), HUGE)
        self.assertEqual(degree_bound(Poly([1] * 41), Poly([HUGE] * 41), Poly([1] * 41)), 0)

    def test_zero_polynomials(self):
        zero = Poly([])
        for polys in [(zero, ONE, ONE), (ONE, zero, ONE), (ONE, ONE, zero), (zero, zero, zero)]:
            with self.assertRaises(ZeroPolynomial):
                degree_bound(*polys)


if __name__ == "__main__":
    unittest.main()
