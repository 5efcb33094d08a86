"""certsums.fraction: promise [5], and the sums and products of promise [6]."""

import fractions
import random
import unittest

from certsums.errors import DivisionByZero, SummationError
from certsums.fraction import Fraction, product_of, sum_of

HUGE = 10 ** 400 - 1


def pair(x):
    return (x.num, x.den)


def plain(x):
    return fractions.Fraction(x.num, x.den)


def randoms(seed, count, size):
    source = random.Random(seed)
    return [Fraction(source.randint(-size, size), source.choice([-1, 1]) * source.randint(1, size))
            for _ in range(count)]


class LowestTermsTest(unittest.TestCase):
    def test_example(self):
        x = Fraction(6, -4)
        self.assertEqual([x.num, x.den, x.floor()], [-3, 2, -2])

    def test_signs_and_common_factors(self):
        for num in range(-12, 13):
            for den in list(range(-12, 0)) + list(range(1, 13)):
                expected = fractions.Fraction(num, den)
                self.assertEqual(pair(Fraction(num, den)), (expected.numerator, expected.denominator))
                self.assertEqual(pair(Fraction(num * HUGE, den * HUGE)), (expected.numerator, expected.denominator))
                self.assertEqual(pair(Fraction(num * 7, den * -7)), (-expected.numerator, expected.denominator))

    def test_zero_is_0_over_1(self):
        for den in [1, -1, 5, -5, HUGE]:
            self.assertEqual(pair(Fraction(0, den)), (0, 1))

    def test_denominator_left_out(self):
        self.assertEqual(pair(Fraction(-7)), (-7, 1))
        self.assertEqual(pair(Fraction(0)), (0, 1))

    def test_denominator_by_name(self):
        self.assertEqual(pair(Fraction(num=4, den=6)), (2, 3))

    def test_zero_denominator(self):
        for num in [0, 1, -3, HUGE]:
            with self.assertRaises(DivisionByZero):
                Fraction(num, 0)

    def test_fields_are_whole_numbers(self):
        x = Fraction(3, 6)
        self.assertIs(type(x.num), int)
        self.assertIs(type(x.den), int)


class OperatorsTest(unittest.TestCase):
    def check(self, x, y):
        for found, expected in [(x + y, plain(x) + plain(y)), (x - y, plain(x) - plain(y)),
                                (x * y, plain(x) * plain(y)), (-x, -plain(x))]:
            self.assertEqual(pair(found), (expected.numerator, expected.denominator))
        if not y.is_zero:
            expected = plain(x) / plain(y)
            self.assertEqual(pair(x.over(y)), (expected.numerator, expected.denominator))

    def test_small(self):
        numbers = [Fraction(num, den) for num in range(-6, 7) for den in range(1, 7)]
        for x in numbers:
            for y in numbers:
                self.check(x, y)

    def test_random(self):
        for size in [3, 100, 10 ** 9, HUGE]:
            numbers = randoms(size.bit_length(), 60, size)
            for x, y in zip(numbers[:30], numbers[30:]):
                self.check(x, y)

    def test_denominators_with_common_factors(self):
        self.assertEqual(pair(Fraction(1, 6) + Fraction(1, 10)), (4, 15))
        self.assertEqual(pair(Fraction(1, 6) + Fraction(1, 3)), (1, 2))
        self.assertEqual(pair(Fraction(5, 6) - Fraction(5, 6)), (0, 1))
        self.assertEqual(pair(Fraction(5, 6) + Fraction(1, 6)), (1, 1))

    def test_nothing_is_changed(self):
        x, y = Fraction(5, 6), Fraction(-3, 4)
        for _ in range(2):
            self.assertEqual(pair(x + y), (1, 12))
            self.assertEqual(pair(x - y), (19, 12))
            self.assertEqual(pair(x * y), (-5, 8))
            self.assertEqual(pair(x.over(y)), (-10, 9))
            self.assertEqual(pair(y.power(3)), (-27, 64))
            self.assertEqual(pair(-y), (3, 4))
        self.assertEqual([pair(x), pair(y)], [(5, 6), (-3, 4)])

    def test_division_by_zero(self):
        for x in [Fraction(0), Fraction(5, 3)]:
            with self.assertRaises(DivisionByZero):
                x.over(Fraction(0))
            with self.assertRaises(SummationError):
                x.over(Fraction(0, -3))


class EqualityTest(unittest.TestCase):
    def test_equal_values(self):
        self.assertTrue(Fraction(2, -4) == Fraction(-1, 2))
        self.assertFalse(Fraction(2, -4) != Fraction(-1, 2))
        self.assertFalse(Fraction(1, 2) == Fraction(-1, 2))
        self.assertFalse(Fraction(1, 2) == Fraction(1, 3))
        self.assertTrue(Fraction(1, 2) != Fraction(1, 3))

    def test_other_kinds(self):
        for other in [3, "3", (3, 1), [3], None, True, fractions.Fraction(3)]:
            self.assertIs(Fraction(3) == other, False)
            self.assertIs(Fraction(3) != other, True)
        self.assertIs(Fraction(1) == True, False)  # noqa: E712
        self.assertIs(Fraction(0) == 0, False)
        self.assertIs(Fraction(0) == None, False)  # noqa: E711


class PropertiesTest(unittest.TestCase):
    def test_is_zero_and_is_whole(self):
        self.assertIs(Fraction(0, 7).is_zero, True)
        self.assertIs(Fraction(1, 7).is_zero, False)
        self.assertIs(Fraction(-14, 7).is_whole, True)
        self.assertIs(Fraction(0).is_whole, True)
        self.assertIs(Fraction(1, 7).is_whole, False)

    def test_sign(self):
        self.assertEqual([Fraction(n, 3).sign() for n in [-HUGE, -1, 0, 1, HUGE]], [-1, -1, 0, 1, 1])
        self.assertEqual(Fraction(1, -3).sign(), -1)

    def test_floor(self):
        cases = [(7, 2, 3), (-7, 2, -4), (-1, 3, -1), (1, 3, 0), (6, 3, 2), (-6, 3, -2), (0, 5, 0), (1, -2, -1)]
        for num, den, expected in cases:
            self.assertEqual(Fraction(num, den).floor(), expected)
        self.assertEqual(Fraction(-HUGE, 2).floor(), -(10 ** 400) // 2)


class PowerTest(unittest.TestCase):
    def test_powers(self):
        for x in [Fraction(2, 3), Fraction(-2, 3), Fraction(-5), Fraction(1, 7), Fraction(1), Fraction(-1)]:
            for exponent in range(-9, 10):
                expected = plain(x) ** exponent
                self.assertEqual(pair(x.power(exponent)), (expected.numerator, expected.denominator))

    def test_exponent_0(self):
        for x in [Fraction(0), Fraction(-3, 5), Fraction(HUGE)]:
            self.assertEqual(pair(x.power(0)), (1, 1))

    def test_zero(self):
        self.assertEqual(pair(Fraction(0).power(5)), (0, 1))
        for exponent in [-1, -2, -200]:
            with self.assertRaises(DivisionByZero):
                Fraction(0).power(exponent)

    def test_large(self):
        x = Fraction(-HUGE, HUGE - 1)
        self.assertEqual(pair(x.power(200)), (HUGE ** 200, (HUGE - 1) ** 200))
        self.assertEqual(pair(x.power(-199)), (-(HUGE - 1) ** 199, HUGE ** 199))


class ListsTest(unittest.TestCase):
    def test_empty(self):
        self.assertEqual(pair(sum_of([])), (0, 1))
        self.assertEqual(pair(product_of([])), (1, 1))

    def test_against_plain_fractions(self):
        for count in range(1, 12):
            numbers = randoms(count, count, 12)
            total = sum([plain(x) for x in numbers])
            product = fractions.Fraction(1)
            for x in numbers:
                product = product * plain(x)
            self.assertEqual(pair(sum_of(numbers)), (total.numerator, total.denominator))
            self.assertEqual(pair(product_of(numbers)), (product.numerator, product.denominator))

    def test_long(self):
        parts = [Fraction(1, k * (k + 1)) for k in range(1, 2000)]
        self.assertEqual(pair(sum_of(parts)), (1999, 2000))
        self.assertEqual(pair(product_of([Fraction(k, k + 1) for k in range(1, 2000)])), (1, 2000))

    def test_arguments_stay_and_results_repeat(self):
        numbers = randoms(5, 7, 50)
        kept = list(numbers)
        pairs = [pair(x) for x in numbers]
        self.assertEqual(sum_of(numbers), sum_of(numbers))
        self.assertEqual(product_of(numbers), product_of(numbers))
        self.assertEqual(len(numbers), len(kept))
        self.assertTrue(all(x is y for x, y in zip(numbers, kept)))
        self.assertEqual([pair(x) for x in numbers], pairs)


if __name__ == "__main__":
    unittest.main()
