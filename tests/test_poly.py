"""certsums.poly: promises [7] and [8]."""

import fractions
import math
import random
import unittest

from certsums.errors import DivisionByZero
from certsums.fraction import Fraction
from certsums.poly import Poly, from_fractions

HUGE = 10 ** 400 - 1


def listed(p):
    """The coefficients as Python's own fractions."""
    return [fractions.Fraction(c, p.den) for c in p.coefs]


def stripped(values):
    while values and values[-1] == 0:
        values = values[:-1]
    return values


def product(first, second):
    found = [fractions.Fraction(0)] * max(0, len(first) + len(second) - 1)
    for i, x in enumerate(first):
        for j, y in enumerate(second):
            found[i + j] += x * y
    return found


def added(first, second):
    size = max(len(first), len(second))
    first, second = first + [0] * (size - len(first)), second + [0] * (size - len(second))
    return [x + y for x, y in zip(first, second)]


def random_poly(source, degree, size):
    coefs = [source.randint(-size, size) for _ in range(degree + 1)]
    return Poly(coefs, source.choice([-1, 1]) * source.randint(1, size))


class FormTest(unittest.TestCase):
    def check_form(self, p):
        self.assertIs(type(p.coefs), tuple)
        self.assertGreater(p.den, 0)
        self.assertEqual(math.gcd(p.den, *p.coefs), 1)
        if p.coefs:
            self.assertNotEqual(p.coefs[-1], 0)
        else:
            self.assertEqual(p.den, 1)

    def test_example(self):
        p = Poly([2, 4, 0], 6)
        self.assertEqual([p.coefs, p.den, p.degree], [(1, 2), 3, 1])

    def test_zeros_at_the_end(self):
        self.assertEqual(Poly([0, 3, 0, 0]).coefs, (0, 3))
        self.assertEqual(Poly((0, 0, 3)).coefs, (0, 0, 3))

    def test_zero(self):
        for coefs in [[], (), [0], [0, 0, 0]]:
            for den in [1, -1, 6, -HUGE]:
                p = Poly(coefs, den)
                self.assertEqual((p.coefs, p.den), ((), 1))
                self.assertEqual(p.degree, -1)
                self.assertEqual(p.lead, Fraction(0))
                self.assertIs(p.is_zero, True)

    def test_common_divisors_and_signs(self):
        self.assertEqual((Poly([6, -9], 12).coefs, Poly([6, -9], 12).den), ((2, -3), 4))
        self.assertEqual((Poly([6, -9], -12).coefs, Poly([6, -9], -12).den), ((-2, 3), 4))
        self.assertEqual((Poly([4, 6], 1).coefs, Poly([4, 6], 1).den), ((4, 6), 1))
        self.assertEqual((Poly([4, 6], -2).coefs, Poly([4, 6], -2).den), ((-2, -3), 1))
        self.assertEqual((Poly([HUGE, 2 * HUGE], 5 * HUGE).coefs, Poly([HUGE, 2 * HUGE], 5 * HUGE).den), ((1, 2), 5))

    def test_random_forms(self):
        source = random.Random(7)
        for _ in range(300):
            self.check_form(random_poly(source, source.randint(-1, 5), source.choice([1, 4, 12, HUGE])))

    def test_denominator_left_out(self):
        self.assertEqual((Poly([1, 2]).coefs, Poly([1, 2]).den), ((1, 2), 1))

    def test_zero_denominator(self):
        for coefs in [[], [0], [1, 2]]:
            with self.assertRaises(DivisionByZero):
                Poly(coefs, 0)

    def test_copies_its_list(self):
        coefs = [1, 2, 3]
        p = Poly(coefs)
        coefs[0] = 9
        coefs.append(4)
        self.assertEqual(p.coefs, (1, 2, 3))

    def test_does_not_change_its_list(self):
        coefs = [2, 4, 0, 0]
        Poly(coefs, -2)
        self.assertEqual(coefs, [2, 4, 0, 0])

    def test_lead_and_degree(self):
        p = Poly([1, 0, -4], 6)
        self.assertEqual(p.degree, 2)
        self.assertEqual(p.lead, Fraction(-2, 3))
        self.assertIs(p.is_zero, False)
        self.assertEqual(Poly([5]).degree, 0)


class EqualityTest(unittest.TestCase):
    def test_same_coefficients(self):
        self.assertTrue(Poly([2, 4, 0], 6) == Poly((-1, -2), -3))
        self.assertFalse(Poly([2, 4, 0], 6) != Poly((-1, -2), -3))
        self.assertFalse(Poly([1, 2]) == Poly([1, 2], 3))
        self.assertFalse(Poly([1, 2]) == Poly([1, 3]))
        self.assertFalse(Poly([1, 2]) == Poly([1, 2, 1]))
        self.assertTrue(Poly([]) == Poly([0], 5))

    def test_other_kinds(self):
        for p, others in [(Poly([3]), [3, "3", (3,), [3], Fraction(3), None]), (Poly([]), [0, (), [], None, Fraction(0)])]:
            for other in others:
                self.assertIs(p == other, False)
                self.assertIs(p != other, True)


class OperatorsTest(unittest.TestCase):
    def check(self, p, q):
        self.assertEqual(listed(p + q), stripped(added(listed(p), listed(q))))
        self.assertEqual(listed(p - q), stripped(added(listed(p), [-c for c in listed(q)])))
        self.assertEqual(listed(p * q), stripped(product(listed(p), listed(q))))
        self.assertEqual(listed(-p), [-c for c in listed(p)])

    def test_small(self):
        polys = [Poly([a, b, c], den) for a in (-1, 0, 2) for b in (0, 3) for c in (0, -2) for den in (1, 6)]
        for p in polys:
            for q in polys:
                self.check(p, q)

    def test_random(self):
        source = random.Random(3)
        for degree, size in [(2, 5), (7, 9), (8, 9), (15, 10 ** 6), (40, 3), (40, HUGE)]:
            self.check(random_poly(source, degree, size), random_poly(source, degree, size))
            self.check(random_poly(source, degree, size), random_poly(source, 9, size))

    def test_the_longest_coefficients_of_a_product(self):
        # All signs and both lengths, where the coefficients of the product are as large as they can be.
        for size in [1, 2, 127, 128, 2 ** 64 - 1, HUGE]:
            for sign in [1, -1]:
                for count in [8, 9, 16, 41]:
                    self.check(Poly([size] * count), Poly([sign * size] * count))
                    self.check(Poly([size] * count), Poly([sign * size, -sign * size] * count))

    def test_cancelled_ends(self):
        self.assertEqual((Poly([1, 2, 3]) - Poly([0, 2, 3])).coefs, (1,))
        self.assertTrue((Poly([1, 2], 3) - Poly([1, 2], 3)).is_zero)

    def test_nothing_is_changed(self):
        p, q = Poly([1, -2], 3), Poly([0, 5, 7])
        for _ in range(2):
            self.assertEqual(p + q, Poly([1, 13, 21], 3))
            self.assertEqual(p - q, Poly([1, -17, -21], 3))
            self.assertEqual(p * q, Poly([0, 5, -3, -14], 3))
            self.assertEqual(p.power(2), Poly([1, -4, 4], 9))
            self.assertEqual(q.shifted(1), Poly([12, 19, 7]))
            self.assertEqual(-p, Poly([-1, 2], 3))
            self.assertEqual(p.scaled(Fraction(3, 2)), Poly([1, -2], 2))
        self.assertEqual((p.coefs, p.den, q.coefs, q.den), ((1, -2), 3, (0, 5, 7), 1))


class MethodsTest(unittest.TestCase):
    def test_coefficient(self):
        p = Poly([2, 0, 3], 4)
        expected = [Fraction(0), Fraction(1, 2), Fraction(0), Fraction(3, 4), Fraction(0), Fraction(0)]
        self.assertEqual([p.coefficient(i) for i in [-1, 0, 1, 2, 3, 200]], expected)
        self.assertEqual([p.coefficient(i) for i in [-2, -3, -200]], [Fraction(0)] * 3)
        self.assertEqual([Poly([]).coefficient(i) for i in [-1, 0, 1]], [Fraction(0)] * 3)

    def test_at(self):
        p = Poly([1, -3, 2], 6)
        self.assertEqual([p.at(k) for k in [-1, 0, 1, 2]], [Fraction(1), Fraction(1, 6), Fraction(0), Fraction(1, 2)])
        self.assertEqual(Poly([]).at(7), Fraction(0))
        self.assertEqual(Poly([4], 6).at(HUGE), Fraction(2, 3))
        self.assertEqual(Poly([1] * 41).at(HUGE), Fraction((HUGE ** 41 - 1) // (HUGE - 1)))

    def test_value(self):
        p = Poly([1, -3, 2], 6)
        self.assertEqual(p.value(Fraction(1, 2)), Fraction(0))
        self.assertEqual(p.value(Fraction(-2, 3)), Fraction(35, 54))
        self.assertEqual(p.value(Fraction(5)), p.at(5))
        self.assertEqual(Poly([]).value(Fraction(1, 3)), Fraction(0))
        self.assertEqual(Poly([4], 6).value(Fraction(1, 3)), Fraction(2, 3))
        source = random.Random(9)
        for degree in range(6):
            q = random_poly(source, degree, 50)
            for _ in range(10):
                x = fractions.Fraction(source.randint(-9, 9), source.randint(1, 9))
                expected = sum([c * x ** i for i, c in enumerate(listed(q))], fractions.Fraction(0))
                self.assertEqual(q.value(Fraction(x.numerator, x.denominator)),
                                 Fraction(expected.numerator, expected.denominator))

    def test_scaled(self):
        self.assertEqual(Poly([2, 3], 5).scaled(Fraction(-5, 6)), Poly([-2, -3], 6))
        self.assertEqual(Poly([2, 3], 5).scaled(Fraction(0)), Poly([]))
        self.assertEqual(Poly([]).scaled(Fraction(3)), Poly([]))

    def test_shifted(self):
        source = random.Random(5)
        for degree in [-1, 0, 1, 2, 5, 40]:
            p = random_poly(source, degree, 99)
            for step in [-200, -3, -1, 0, 1, 2, 200]:
                q = p.shifted(step)
                for k in range(-3, 4):
                    self.assertEqual(q.at(k), p.at(k + step))
                self.assertEqual(q.degree, p.degree)
                self.assertEqual(q.shifted(-step), p)
        self.assertEqual(Poly([0, 0, 1]).shifted(-3), Poly([9, -6, 1]))
        self.assertEqual(Poly([1, 2, 3], 4).shifted(0), Poly([1, 2, 3], 4))

    def test_power(self):
        for p in [Poly([1, 1]), Poly([0, 0, -2, 3], 5), Poly([3, 0, 1]), Poly([7], 2), Poly([0, 1]), Poly([-2, 0, 0, 4])]:
            expected = Poly([1])
            for exponent in range(9):
                self.assertEqual(p.power(exponent), expected)
                expected = expected * p

    def test_power_of_zero(self):
        self.assertEqual(Poly([]).power(0), Poly([1]))
        self.assertEqual(Poly([]).power(1), Poly([]))
        self.assertEqual(Poly([]).power(200), Poly([]))

    def test_large_power(self):
        self.assertEqual(Poly([1, 1]).power(200).coefs, tuple([math.comb(200, k) for k in range(201)]))
        p = Poly(list(range(-20, 21)), 7)
        q = p.power(200)
        self.assertEqual((q.degree, q.den), (8000, 7 ** 200))
        self.assertEqual(q.at(1), p.at(1).power(200))
        self.assertEqual(q.at(-2), p.at(-2).power(200))
        self.assertEqual(Poly([HUGE, -HUGE]).power(200).coefs[100], math.comb(200, 100) * HUGE ** 200)

    def test_constant_and_line(self):
        self.assertEqual(Poly.constant(Fraction(-4, 6)), Poly([-2], 3))
        self.assertEqual(Poly.constant(Fraction(0)), Poly([]))
        self.assertEqual(Poly.line(3, -4), Poly([-4, 3]))
        self.assertEqual(Poly.line(0, 5), Poly([5]))
        self.assertEqual(Poly.line(0, 0), Poly([]))

    def test_from_fractions(self):
        parts = [Fraction(1, 2), Fraction(-2, 3), Fraction(0), Fraction(5), Fraction(0)]
        p = from_fractions(parts)
        self.assertEqual((p.coefs, p.den), ((3, -4, 0, 30), 6))
        self.assertEqual(from_fractions(parts), p)
        self.assertEqual(len(parts), 5)
        parts[0] = Fraction(9)
        self.assertEqual(p.coefficient(0), Fraction(1, 2))
        for zero in [[], [Fraction(0)], [Fraction(0), Fraction(0)]]:
            self.assertEqual(from_fractions(zero), Poly([]))


if __name__ == "__main__":
    unittest.main()
