"""certsums.quotient: promise [13]."""

import random
import unittest

from certsums.division import common_divisor
from certsums.errors import DivisionByZero, Pole
from certsums.fraction import Fraction
from certsums.poly import Poly
from certsums.quotient import Quotient

HUGE = 10 ** 400 - 1
ZERO = Poly([])
ONE = Poly([1])


def parts(y):
    return (y.num.coefs, y.num.den, y.den.coefs, y.den.den)


def random_poly(source, degree, size):
    coefs = [source.randint(-size, size) for _ in range(degree)] + [source.choice([-1, 1]) * source.randint(1, size)]
    return Poly(coefs, source.randint(1, size))


class FormTest(unittest.TestCase):
    def check_form(self, y):
        self.assertEqual(y.den.lead, Fraction(1))
        self.assertEqual(common_divisor(y.num, y.den), ONE)

    def test_example(self):
        y = Quotient(Poly([0, 2]), Poly([0, 0, 4]))
        self.assertEqual([y.num.coefs, y.num.den, y.den.coefs], [(1,), 2, (0, 1)])

    def test_common_factor(self):
        y = Quotient(Poly([-1, 0, 1]), Poly([1, 2, 1]))
        self.assertEqual(parts(y), ((-1, 1), 1, (1, 1), 1))
        self.assertEqual(parts(Quotient(Poly([2, 2]), Poly([1, 1]))), ((2,), 1, (1,), 1))

    def test_denominator_that_is_not_monic(self):
        self.assertEqual(parts(Quotient(Poly([1]), Poly([1, -2], 3))), ((-3,), 2, (-1, 2), 2))
        self.assertEqual(parts(Quotient(Poly([1, 1]), Poly([-5]))), ((-1, -1), 5, (1,), 1))

    def test_zero(self):
        for den in [ONE, Poly([-3], 7), Poly([1, 2, 3])]:
            y = Quotient(ZERO, den)
            self.assertEqual(parts(y), ((), 1, (1,), 1))
            self.assertIs(y.is_zero, True)
        self.assertIs(Quotient(ONE, Poly([1, 1])).is_zero, False)

    def test_zero_denominator(self):
        for num in [ZERO, ONE, Poly([1, 2])]:
            with self.assertRaises(DivisionByZero):
                Quotient(num, ZERO)

    def test_equal_quotients_have_equal_fields(self):
        source = random.Random(1)
        for size in [3, 50, HUGE]:
            for _ in range(20):
                num, den, factor = [random_poly(source, source.randint(0, 3), size) for _ in range(3)]
                y, z = Quotient(num, den), Quotient(num * factor, den * factor)
                self.check_form(y)
                self.assertEqual(parts(y), parts(z))
                self.assertTrue(y == z)

    def test_equality(self):
        y = Quotient(Poly([1]), Poly([1, 1]))
        self.assertFalse(y == Quotient(Poly([2]), Poly([1, 1])))
        self.assertFalse(y == Quotient(Poly([1]), Poly([2, 1])))
        self.assertTrue(y != Quotient(Poly([1]), Poly([2, 1])))
        for other in [1, "1", (ONE, ONE), ONE, Fraction(1), None]:
            self.assertIs(Quotient(ONE, ONE) == other, False)

    def test_whole(self):
        self.assertEqual(parts(Quotient.whole(Poly([2, 4], 6))), ((1, 2), 3, (1,), 1))
        self.assertEqual(parts(Quotient.whole(ZERO)), ((), 1, (1,), 1))


class OperatorsTest(unittest.TestCase):
    def check(self, y, z):
        found = [y + z, y - z, y * z, -y]
        for x in found:
            self.assertEqual(x.den.lead, Fraction(1))
            self.assertEqual(common_divisor(x.num, x.den), ONE)
        self.assertEqual(found[0].num * y.den * z.den, (y.num * z.den + z.num * y.den) * found[0].den)
        self.assertEqual(found[1].num * y.den * z.den, (y.num * z.den - z.num * y.den) * found[1].den)
        self.assertEqual(found[2].num * y.den * z.den, y.num * z.num * found[2].den)
        self.assertEqual((found[3].num, found[3].den), (-y.num, y.den))
        if not z.is_zero:
            self.assertEqual(y.over(z) * z, y)

    def test_random(self):
        source = random.Random(2)
        for _ in range(80):
            size = source.choice([1, 2, 9, 10 ** 30])
            first, second, shared = [random_poly(source, source.randint(0, 3), size) for _ in range(3)]
            y = Quotient(random_poly(source, 2, size), first * shared)
            z = Quotient(random_poly(source, 2, size) * first, second * shared)
            self.check(y, z)

    def test_bounds(self):
        source = random.Random(3)
        y, z = [Quotient(random_poly(source, 40, HUGE), random_poly(source, 40, HUGE)) for _ in range(2)]
        self.check(y, z)
        self.assertEqual((y + z) - z, y)

    def test_zero(self):
        y, zero = Quotient(Poly([1, 2]), Poly([0, 3])), Quotient(ZERO, ONE)
        self.assertEqual([y + zero, zero + y, y - zero], [y, y, y])
        self.assertEqual([y * zero, zero * y, y - y, -zero, zero.over(y)], [zero] * 5)

    def test_over_zero(self):
        for y in [Quotient(ONE, Poly([0, 1])), Quotient(ZERO, ONE)]:
            with self.assertRaises(DivisionByZero):
                y.over(Quotient(ZERO, Poly([1, 1])))

    def test_nothing_is_changed(self):
        num, den = Poly([1, 2], 3), Poly([0, 3])
        y, z = Quotient(num, den), Quotient(ONE, Poly([1, 1]))
        kept = [parts(y), parts(z)]
        self.assertEqual([y + z, y - z, y * z, y.over(z), -y, y.shifted(2)],
                         [y + z, y - z, y * z, y.over(z), -y, y.shifted(2)])
        self.assertEqual([parts(y), parts(z)], kept)
        self.assertEqual((num.coefs, num.den, den.coefs, den.den), ((1, 2), 3, (0, 3), 1))


class MethodsTest(unittest.TestCase):
    def test_at(self):
        y = Quotient(Poly([1, 1]), Poly([-6, 2]))
        self.assertEqual([y.at(k) for k in [-1, 0, 2, 4]], [Fraction(0), Fraction(-1, 6), Fraction(-3, 2), Fraction(5, 2)])
        self.assertEqual(Quotient(ZERO, ONE).at(5), Fraction(0))

    def test_pole(self):
        y = Quotient(Poly([1]), Poly([6, -5, 1]))
        for k in [2, 3]:
            with self.assertRaises(Pole) as caught:
                y.at(k)
            self.assertEqual(caught.exception.where, k)
        self.assertEqual(y.at(4), Fraction(1, 2))
        with self.assertRaises(Pole) as caught:
            Quotient(Poly([0, 1]), Poly([HUGE, 1])).at(-HUGE)
        self.assertEqual(caught.exception.where, -HUGE)

    def test_only_the_cancelled_factor_is_zero(self):
        y = Quotient(Poly([-1, 0, 1]), Poly([-1, 1]))
        self.assertEqual(y.at(1), Fraction(2))
        z = Quotient(Poly([0, 1]), Poly([0, 1, 1]))
        self.assertEqual(z.at(0), Fraction(1))
        with self.assertRaises(Pole):
            z.at(-1)

    def test_shifted(self):
        y = Quotient(Poly([1, 1], 3), Poly([-6, 2, 5]))
        for step in [-200, -3, 0, 1, 200]:
            z = y.shifted(step)
            self.assertEqual(z.den.lead, Fraction(1))
            for k in [-4, 0, 3]:
                self.assertEqual(z.at(k), y.at(k + step))
            self.assertEqual(z.shifted(-step), y)
        self.assertEqual(parts(Quotient(ONE, Poly([0, 1])).shifted(-2)), ((1,), 1, (-2, 1), 1))


if __name__ == "__main__":
    unittest.main()
