"""certsums.poly2: promise [12]."""

import random
import unittest

from certsums.fraction import Fraction
from certsums.poly import Poly
from certsums.poly2 import Poly2, product_of2

HUGE = 10 ** 400 - 1
ZERO = Poly2([])
ONE = Poly2([Poly([1])])
POINTS = [(n, k) for n in (-2, 0, 1, 5) for k in (-3, 0, 1, 4)]


def random_poly2(source, degree_n, degree_k, size, dens=6):
    return Poly2([Poly([source.randint(-size, size) for _ in range(degree_n + 1)], source.randint(1, dens))
                  for _ in range(degree_k + 1)])


def parts(p):
    return [(row.coefs, row.den) for row in p.rows]


class FormTest(unittest.TestCase):
    def test_rows(self):
        p = Poly2([Poly([1, 2]), Poly([]), Poly([0, 0, 3], 2)])
        self.assertIs(type(p.rows), tuple)
        self.assertEqual(parts(p), [((1, 2), 1), ((), 1), ((0, 0, 3), 2)])
        self.assertEqual((p.degree_n, p.degree_k, p.is_zero), (2, 2, False))

    def test_zero_rows_at_the_end(self):
        p = Poly2((Poly([1]), Poly([0, 5]), Poly([]), Poly([0])))
        self.assertEqual(parts(p), [((1,), 1), ((0, 5), 1)])
        self.assertEqual((p.degree_n, p.degree_k), (1, 1))

    def test_zero(self):
        for rows in [[], (), [Poly([])], [Poly([]), Poly([])]]:
            p = Poly2(rows)
            self.assertEqual(p.rows, ())
            self.assertEqual((p.degree_n, p.degree_k, p.is_zero), (-1, -1, True))

    def test_copies_its_list(self):
        rows = [Poly([1]), Poly([2]), Poly([])]
        p = Poly2(rows)
        self.assertEqual(len(rows), 3)
        rows[0] = Poly([9])
        rows.pop()
        self.assertEqual(parts(p), [((1,), 1), ((2,), 1)])

    def test_row(self):
        p = Poly2([Poly([1, 2]), Poly([3])])
        self.assertEqual([p.row(i) for i in [0, 1, 2, 200]], [Poly([1, 2]), Poly([3]), Poly([]), Poly([])])
        self.assertEqual([ZERO.row(i) for i in [0, 1]], [Poly([]), Poly([])])

    def test_equality(self):
        p = Poly2([Poly([1, 2]), Poly([3], 2)])
        self.assertTrue(p == Poly2((Poly([2, 4], 2), Poly([3], 2), Poly([]))))
        self.assertFalse(p == Poly2([Poly([1, 2]), Poly([3])]))
        self.assertTrue(p != Poly2([Poly([1, 2])]))
        for other in [Poly([1, 2]), 0, (), [], None, "", p.rows]:
            self.assertIs(p == other, False)
            self.assertIs(ZERO == other, False)


class OperatorsTest(unittest.TestCase):
    def check(self, p, q):
        total, difference, product, negative = p + q, p - q, p * q, -p
        for n, k in POINTS:
            x, y = p.value_at(n, k), q.value_at(n, k)
            self.assertEqual(total.value_at(n, k), x + y)
            self.assertEqual(difference.value_at(n, k), x - y)
            self.assertEqual(product.value_at(n, k), x * y)
            self.assertEqual(negative.value_at(n, k), -x)
        if not (p.is_zero or q.is_zero):
            self.assertEqual((product.degree_n, product.degree_k),
                             (p.degree_n + q.degree_n, p.degree_k + q.degree_k))

    def test_values_of_random_ones(self):
        source = random.Random(1)
        for _ in range(60):
            p = random_poly2(source, source.randint(-1, 4), source.randint(-1, 4), 9)
            q = random_poly2(source, source.randint(-1, 4), source.randint(-1, 4), 9)
            self.check(p, q)

    def test_product_row_by_row(self):
        source = random.Random(2)
        for degree_n, degree_k, size in [(0, 0, 5), (3, 2, 5), (9, 9, 10 ** 20), (1, 12, 4)]:
            p, q = [random_poly2(source, degree_n, degree_k, size) for _ in range(2)]
            for i in range(2 * degree_k + 2):
                expected = Poly([])
                for j in range(i + 1):
                    expected = expected + p.row(j) * q.row(i - j)
                self.assertEqual((p * q).row(i), expected)

    def test_zero(self):
        p = Poly2.line(1, 2, 3)
        self.assertEqual([p * ZERO, ZERO * p, p - p, ZERO + ZERO, -ZERO], [ZERO] * 5)
        self.assertEqual([p + ZERO, ZERO + p, p * ONE, ONE * p], [p] * 4)

    def test_bounds(self):
        source = random.Random(3)
        p, q = random_poly2(source, 40, 40, 9), random_poly2(source, 40, 40, 9)
        self.check(p, q)
        p, q = random_poly2(source, 40, 6, HUGE, 1), random_poly2(source, 6, 40, HUGE, 1)
        self.check(p, q)

    def test_rows_with_very_different_denominators(self):
        source = random.Random(7)
        for degree_n, degree_k in [(0, 1), (2, 3), (6, 5)]:
            p, q = [random_poly2(source, degree_n, degree_k, HUGE, HUGE) for _ in range(2)]
            self.check(p, q)
            self.check(p, Poly2.line(1, -2, 3))
            self.check(Poly2.line(1, -2, 3), p)
            self.assertEqual([p * ZERO, ZERO * p, p.power(0), p.power(1)], [ZERO, ZERO, ONE, p])
            self.assertEqual(p.power(3), p * (p * p))

    def test_nothing_is_changed(self):
        p, q = Poly2([Poly([1, 2]), Poly([3], 2)]), Poly2([Poly([]), Poly([0, 1])])
        kept = [parts(p), parts(q)]
        for _ in range(2):
            self.assertEqual(p + q, Poly2([Poly([1, 2]), Poly([3, 2], 2)]))
            self.assertEqual(p - q, Poly2([Poly([1, 2]), Poly([3, -2], 2)]))
            self.assertEqual(p * q, Poly2([Poly([]), Poly([0, 1, 2]), Poly([0, 3], 2)]))
            self.assertEqual(p.moved(1, 0), Poly2([Poly([3, 2]), Poly([3], 2)]))
            self.assertEqual(q.power(2), Poly2([Poly([]), Poly([]), Poly([0, 0, 1])]))
        self.assertEqual([parts(p), parts(q)], kept)


class MethodsTest(unittest.TestCase):
    def test_values(self):
        p = Poly2([Poly([1, 2]), Poly([]), Poly([0, 3], 2)])
        self.assertEqual(p.value_at(2, 3), Fraction(1 + 4 + 27))
        self.assertEqual(p.at_n(2), Poly([5, 0, 3]))
        self.assertEqual(p.at_k(3), Poly([2, 31], 2))
        self.assertEqual(p.at_n(0), Poly([1]))
        self.assertEqual(p.at_k(0), Poly([1, 2]))
        self.assertEqual((ZERO.at_n(3), ZERO.at_k(3), ZERO.value_at(3, 4)), (Poly([]), Poly([]), Fraction(0)))

    def test_values_agree(self):
        source = random.Random(4)
        p = random_poly2(source, 5, 4, 99)
        for n, k in POINTS + [(HUGE, -HUGE)]:
            self.assertEqual(p.at_n(n).at(k), p.value_at(n, k))
            self.assertEqual(p.at_k(k).at(n), p.value_at(n, k))
            expected = Fraction(0)
            for i, row in enumerate(p.rows):
                expected = expected + row.at(n) * Fraction(k).power(i)
            self.assertEqual(p.value_at(n, k), expected)

    def test_moved(self):
        source = random.Random(5)
        for degree_n, degree_k in [(0, 0), (3, 0), (0, 3), (4, 3), (40, 40)]:
            p = random_poly2(source, degree_n, degree_k, 9)
            for by_n, by_k in [(0, 0), (1, 0), (0, 1), (-2, 3), (2, -3), (-200, -200), (200, 200)]:
                q = p.moved(by_n, by_k)
                for n, k in POINTS:
                    self.assertEqual(q.value_at(n, k), p.value_at(n + by_n, k + by_k))
                self.assertEqual(q.moved(-by_n, -by_k), p)
        self.assertEqual(ZERO.moved(3, -4), ZERO)

    def test_power(self):
        for p in [Poly2.line(1, 1, 0), Poly2.line(2, -3, 5), Poly2([Poly([]), Poly([0, 1], 3), Poly([1, 0, -2])]),
                  Poly2([Poly([5], 2)]), Poly2([Poly([0, 1])]), Poly2([Poly([]), Poly([1])])]:
            expected = ONE
            for exponent in range(7):
                self.assertEqual(p.power(exponent), expected)
                expected = expected * p

    def test_power_of_zero(self):
        self.assertEqual([ZERO.power(0), ZERO.power(1), ZERO.power(200)], [ONE, ZERO, ZERO])

    def test_large_power(self):
        p = Poly2.line(3, -4, 5).power(200)
        self.assertEqual((p.degree_n, p.degree_k), (200, 200))
        for n, k in POINTS:
            self.assertEqual(p.value_at(n, k), Fraction(3 * n - 4 * k + 5).power(200))
        q = Poly2([Poly([1, 1]), Poly([2, 0, 1], 3)]).power(50)
        self.assertEqual(q.value_at(2, 3), Fraction(9).power(50))

    def test_in_n_and_in_k(self):
        p = Poly([1, 0, 5], 2)
        self.assertEqual(parts(Poly2.in_n(p)), [((1, 0, 5), 2)])
        self.assertEqual(parts(Poly2.in_k(p)), [((1,), 2), ((), 1), ((5,), 2)])
        self.assertEqual((Poly2.in_n(Poly([])), Poly2.in_k(Poly([]))), (ZERO, ZERO))

    def test_line(self):
        self.assertEqual(parts(Poly2.line(2, 3, -4)), [((-4, 2), 1), ((3,), 1)])
        self.assertEqual(parts(Poly2.line(2, 0, 0)), [((0, 2), 1)])
        self.assertEqual(parts(Poly2.line(0, 3, 0)), [((), 1), ((3,), 1)])
        self.assertEqual(parts(Poly2.line(0, 0, 5)), [((5,), 1)])
        self.assertEqual(Poly2.line(0, 0, 0), ZERO)

    def test_of_sum(self):
        self.assertEqual(parts(Poly2.of_sum(Poly([0, 0, 1]))), [((0, 0, 1), 1), ((0, 2), 1), ((1,), 1)])
        self.assertEqual(Poly2.of_sum(Poly([])), ZERO)
        source = random.Random(6)
        for degree in [0, 1, 4, 40]:
            p = Poly([source.randint(-9, 9) for _ in range(degree)] + [7], 5)
            for n, k in POINTS:
                self.assertEqual(Poly2.of_sum(p).value_at(n, k), p.at(n + k))

    def test_product_of2(self):
        self.assertEqual(product_of2([]), ONE)
        factors = [Poly2.line(1, 2, 3), Poly2.line(0, 1, -1), Poly2.line(1, 0, 0)]
        kept = list(factors)
        self.assertEqual(product_of2(factors), factors[0] * factors[1] * factors[2])
        self.assertEqual(product_of2(factors), product_of2(factors))
        self.assertTrue(len(factors) == 3 and all(p is q for p, q in zip(factors, kept)))
        self.assertEqual(product_of2([factors[0], ZERO]), ZERO)


if __name__ == "__main__":
    unittest.main()
