"""certsums.counting: promise [6]."""

import itertools
import math
import unittest

from certsums.counting import binomial, factorial, rising
from certsums.fraction import Fraction


class FactorialTest(unittest.TestCase):
    def test_values(self):
        self.assertEqual([factorial(n) for n in range(7)], [1, 1, 2, 6, 24, 120, 720])

    def test_large(self):
        self.assertEqual(factorial(2999), math.prod(range(1, 3000)))
        self.assertEqual(factorial(2999), factorial(2999))


class BinomialTest(unittest.TestCase):
    def test_counts_subsets(self):
        for n in range(8):
            for k in range(-3, n + 4):
                subsets = list(itertools.combinations(range(n), k)) if k >= 0 else []
                self.assertEqual(binomial(n, k), len(subsets))

    def test_outside(self):
        self.assertEqual([binomial(5, k) for k in [-2999, -1, 6, 2999]], [0, 0, 0, 0])
        self.assertEqual([binomial(0, k) for k in [-1, 0, 1]], [0, 1, 0])

    def test_large(self):
        self.assertEqual(binomial(2999, 1400), binomial(2999, 1599))
        self.assertEqual(sum([binomial(2999, k) for k in range(-5, 3010)]), 2 ** 2999)


class RisingTest(unittest.TestCase):
    def test_values(self):
        self.assertEqual(rising(Fraction(3), 4), Fraction(3 * 4 * 5 * 6))
        self.assertEqual(rising(Fraction(1, 2), 3), Fraction(1 * 3 * 5, 8))
        self.assertEqual(rising(Fraction(-1, 2), 2), Fraction(-1, 4))
        self.assertEqual(rising(Fraction(5, 7), 1), Fraction(5, 7))

    def test_count_0(self):
        for x in [Fraction(0), Fraction(-2), Fraction(7, 3)]:
            self.assertEqual(rising(x, 0), Fraction(1))

    def test_through_zero(self):
        self.assertEqual(rising(Fraction(0), 1), Fraction(0))
        self.assertEqual([rising(Fraction(-3), count).num for count in range(6)], [1, -3, 6, -6, 0, 0])

    def test_large(self):
        self.assertEqual(rising(Fraction(1), 200), Fraction(factorial(200)))
        big = 10 ** 399 + 1
        found = rising(Fraction(big, 10 ** 399), 200)
        self.assertEqual(found.den, 10 ** (399 * 200))
        self.assertEqual(found.num, math.prod([big + i * 10 ** 399 for i in range(200)]))

    def test_argument_stays(self):
        x = Fraction(-7, 2)
        self.assertEqual(rising(x, 3), rising(x, 3))
        self.assertEqual((x.num, x.den), (-7, 2))


if __name__ == "__main__":
    unittest.main()
