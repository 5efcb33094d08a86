"""certsums.operator: promise [35], and [2] and [4] for it."""

import random
import unittest

from certsums.fraction import Fraction
from certsums.operator import Operator
from certsums.poly import Poly

HUGE = 10 ** 400 - 1
ZERO = Operator([])
N = Operator([Poly([]), Poly([1])])


def random_poly(source, degree=3, size=5):
    return Poly([source.randint(-size, size) for _ in range(source.randint(0, degree + 1))], source.randint(1, size))


def random_operator(source, order=3, degree=3, size=5):
    return Operator([random_poly(source, degree, size) for _ in range(source.randint(0, order + 1))])


def random_values(source, count):
    return [Fraction(source.randint(-9, 9), source.randint(1, 9)) for _ in range(count)]


def mapped(operator, values):
    """The values of the sequence that a sequence is mapped to, as far as they are determined."""
    found = []
    for n in range(len(values) - max(0, operator.order)):
        total = Fraction(0)
        for j, p in enumerate(operator.coefs):
            total = total + p.at(n) * values[n + j]
        found.append(total)
    return found


class KeptFormTest(unittest.TestCase):
    def test_fields(self):
        operator = Operator([Poly([1, 2]), Poly([]), Poly([3])])
        self.assertEqual(operator.coefs, (Poly([1, 2]), Poly([]), Poly([3])))
        self.assertIs(type(operator.coefs), tuple)
        self.assertEqual((operator.order, operator.lead, operator.is_zero), (2, Poly([3]), False))

    def test_last_zeros_are_left_out(self):
        self.assertEqual(Operator([Poly([5]), Poly([]), Poly([0, 0])]).coefs, (Poly([5]),))
        self.assertEqual(Operator((Poly([]), Poly([1]), Poly([]))).coefs, (Poly([]), Poly([1])))

    def test_zero(self):
        for operator in [ZERO, Operator(()), Operator([Poly([])]), Operator([Poly([]), Poly([0])])]:
            self.assertEqual(operator.coefs, ())
            self.assertEqual((operator.order, operator.lead, operator.is_zero), (-1, Poly([]), True))

    def test_order_0(self):
        operator = Operator([Poly([0, 1])])
        self.assertEqual((operator.order, operator.lead, operator.is_zero), (0, Poly([0, 1]), False))

    def test_lists_are_copied(self):
        coefs = [Poly([1]), Poly([2])]
        operator = Operator(coefs)
        coefs[0] = Poly([9])
        coefs.append(Poly([3]))
        self.assertEqual(operator.coefs, (Poly([1]), Poly([2])))

    def test_arguments_are_unchanged(self):
        coefs = [Poly([1]), Poly([]), Poly([])]
        Operator(coefs)
        self.assertEqual(coefs, [Poly([1]), Poly([]), Poly([])])

    def test_shift(self):
        self.assertEqual(Operator.shift(0), Operator([Poly([1])]))
        self.assertEqual(Operator.shift(1), N)
        self.assertEqual(Operator.shift(3).coefs, (Poly([]), Poly([]), Poly([]), Poly([1])))
        self.assertEqual(Operator.shift(200).order, 200)


class EqualityTest(unittest.TestCase):
    def test_equal(self):
        self.assertEqual(Operator([Poly([2], 4), N.lead]), Operator((Poly([1], 2), Poly([1]), Poly([]))))
        self.assertNotEqual(Operator([Poly([1])]), Operator([Poly([1]), Poly([1])]))
        self.assertNotEqual(Operator([Poly([1])]), Operator([Poly([2])]))

    def test_other_kinds(self):
        for other in [None, 0, "", (), (Poly([1]),), [Poly([1])], Poly([1])]:
            self.assertFalse(Operator([Poly([1])]) == other)
            self.assertFalse(ZERO == other)


class RingTest(unittest.TestCase):
    def test_composition(self):
        n = Operator([Poly([0, 1])])
        self.assertEqual((N * n).coefs, (Poly([]), Poly([1, 1])))
        self.assertEqual((n * N).coefs, (Poly([]), Poly([0, 1])))
        first = Operator([Poly([]), Poly([]), Poly([0, 1])])
        second = Operator([Poly([]), Poly([0, 0, 1])])
        # (n N ** 2) (n ** 2 N) = n (n + 2) ** 2 N ** 3
        self.assertEqual((first * second).coefs, (Poly([]), Poly([]), Poly([]), Poly([0, 4, 4, 1])))

    def test_zero(self):
        operator = Operator([Poly([1, 2]), Poly([3])])
        for other in [operator, ZERO, N]:
            self.assertEqual(other * ZERO, ZERO)
            self.assertEqual(ZERO * other, ZERO)
            self.assertEqual(other + ZERO, other)
            self.assertEqual(ZERO + other, other)
            self.assertEqual(other - other, ZERO)
            self.assertEqual(ZERO - other, -other)
        self.assertEqual((operator - Operator([Poly([]), Poly([3])])).coefs, (Poly([1, 2]),))

    def test_against_sequences(self):
        source = random.Random(1)
        for _ in range(200):
            first, second = random_operator(source), random_operator(source)
            values = random_values(source, 12)
            product = mapped(first, mapped(second, values))
            self.assertEqual(mapped(first * second, values)[:len(product)], product)
            for n in range(4):
                one, other = first.apply_at(values, n), second.apply_at(values, n)
                self.assertEqual((first + second).apply_at(values, n), one + other)
                self.assertEqual((first - second).apply_at(values, n), one - other)
                self.assertEqual((-first).apply_at(values, n), -one)

    def test_order_of_products(self):
        source = random.Random(2)
        for _ in range(50):
            first, second = random_operator(source), random_operator(source)
            if not (first.is_zero or second.is_zero):
                self.assertEqual((first * second).order, first.order + second.order)

    def test_associative(self):
        source = random.Random(3)
        for _ in range(50):
            a, b, c = [random_operator(source) for _ in range(3)]
            self.assertEqual((a * b) * c, a * (b * c))
            self.assertEqual((a + b) * c, a * c + b * c)
            self.assertEqual(a * (b + c), a * b + a * c)

    def test_bounds(self):
        source = random.Random(4)
        a, b = [Operator([Poly([source.randint(-HUGE, HUGE) for _ in range(41)]) for _ in range(7)]) for _ in range(2)]
        product = a * b
        self.assertEqual(product.order, 12)
        self.assertEqual(product.lead, a.lead * b.lead.shifted(6))
        self.assertEqual(product - a * b, ZERO)


class ApplyTest(unittest.TestCase):
    def test_values(self):
        operator = Operator([Poly([0, 1]), Poly([]), Poly([1], 2)])
        values = [Fraction(x) for x in [1, 2, 3, 4, 5]]
        found = [operator.apply_at(values, n) for n in range(3)]
        self.assertEqual(found, [Fraction(3, 2), Fraction(4), Fraction(17, 2)])

    def test_zero(self):
        self.assertEqual(ZERO.apply_at([], 0), Fraction(0))
        self.assertEqual(ZERO.apply_at([Fraction(1)], 5), Fraction(0))

    def test_exactly_long_enough(self):
        values = [Fraction(3), Fraction(5)]
        self.assertEqual(N.apply_at(values, 0), Fraction(5))
        self.assertEqual(Operator([Poly([2])]).apply_at(values, 1), Fraction(10))
        self.assertEqual(values, [Fraction(3), Fraction(5)])

    def test_random(self):
        source = random.Random(5)
        for _ in range(50):
            operator = random_operator(source)
            values = random_values(source, 10)
            expected = mapped(operator, values)
            self.assertEqual([operator.apply_at(values, n) for n in range(len(expected))], expected)


if __name__ == "__main__":
    unittest.main()
