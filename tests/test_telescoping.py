"""certsums.telescoping: promises [29], [31] and [32], and [30] for what they lead to."""

import itertools
import random
import unittest

from certsums.binomialsum import BinomialSum
from certsums.fraction import Fraction, sum_of
from certsums.poly import Poly
from certsums.poly2 import Poly2
from certsums.polysystems import poly_kernel
from certsums.telescoping import backward, certificate_degree, column, equations, forward

HUGE = 10 ** 400 - 1
ONE = Poly2([Poly([1])])
ZERO = Poly2([])
BASES = [Fraction(1), Fraction(-1), Fraction(1, 4), Fraction(-1, 4), Fraction(1, 16), Fraction(3, 2), Fraction(-HUGE)]
KINDS = [(choose, rise, central) for choose in range(1, 5) for rise in range(4) for central in range(4)
         if choose + rise + central <= 4]


def binomial_sum(weight=ONE, base=Fraction(1), choose=1, rise=0, central=0):
    return BinomialSum(weight, base, choose=choose, rise=rise, central=central)


def greatest_weight(source, size=9):
    return Poly2([Poly([source.randint(-size, size) for _ in range(3)] + [1], source.randint(1, size))
                  for _ in range(4)])


def product(numbers):
    found = 1
    for number in numbers:
        found = found * number
    return found


def column_value(s, order, j, n, k):
    chosen = product(range(n + 1, n + j + 1)) * product(range(n + j - k + 1, n + order - k + 1))
    risen = product(range(n + k + 1, n + k + j + 1)) * product(range(n + j + 1, n + order + 1))
    return s.weight.value_at(n + j, k) * Fraction(chosen ** s.choose * risen ** s.rise)


def telescoped(s, order, vector):
    """The difference of both sides of the equation of point 30, of the unknowns in the order of point 32."""
    total = ZERO
    for j in range(order + 1):
        total = total + Poly2.in_n(vector[j]) * column(s, order, j)
    m = Poly2(vector[order + 1:])
    return total - forward(s, order) * m.moved(0, 1) + backward(s) * m


class FactorsTest(unittest.TestCase):
    def test_columns(self):
        source = random.Random(1)
        for choose, rise, central in KINDS:
            s = binomial_sum(greatest_weight(source), Fraction(2, 3), choose, rise, central)
            for order in [0, 1, 3, 6]:
                for j in range(order + 1):
                    found = column(s, order, j)
                    self.assertEqual(found.degree_k, 3 + choose * (order - j) + rise * j)
                    for n, k in [(0, 0), (3, 2), (-5, 1), (4, 9), (7, -3)]:
                        self.assertEqual(found.value_at(n, k), column_value(s, order, j, n, k))

    def test_order_0(self):
        weight = Poly2.line(2, 3, 4)
        for choose, rise, central in KINDS:
            self.assertEqual(column(binomial_sum(weight, choose=choose, rise=rise, central=central), 0, 0), weight)

    def test_simple_columns(self):
        s = binomial_sum()
        self.assertEqual([column(s, 1, 0), column(s, 1, 1)], [Poly2.line(1, -1, 1), Poly2.line(1, 0, 1)])
        s = binomial_sum(choose=1, rise=1)
        self.assertEqual([column(s, 1, 0), column(s, 1, 1)],
                         [Poly2.line(1, -1, 1) * Poly2.line(1, 0, 1), Poly2.line(1, 0, 1) * Poly2.line(1, 1, 1)])

    def test_forward(self):
        for base in BASES:
            for choose, rise, central in KINDS:
                s = binomial_sum(greatest_weight(random.Random(2)), base, choose, rise, central)
                for order in [0, 1, 6]:
                    for n, k in [(0, 0), (3, 2), (-5, 1), (4, 9)]:
                        number = (n + order - k) ** choose * (n + k + 1) ** rise * (4 * k + 2) ** central
                        self.assertEqual(forward(s, order).value_at(n, k), base * Fraction(number))

    def test_backward(self):
        for choose, rise, central in KINDS:
            s = binomial_sum(Poly2.line(1, 1, 1), Fraction(5), choose, rise, central)
            self.assertEqual(backward(s), Poly2.in_k(Poly([0] * (choose + rise + central) + [1])))


class CertificateDegreeTest(unittest.TestCase):
    def by_definition(self, s, order, greatest):
        results = [greatest - s.factors]
        if s.base * Fraction((-1) ** s.choose * 4 ** s.central) == Fraction(1):
            results = [greatest - s.factors + 1]
            if s.choose == s.rise and s.central % 2 == 0:
                results.append(s.choose * (order - 1) - s.central // 2)
        return max(-1, max(results))

    def test_example(self):
        self.assertEqual(certificate_degree(binomial_sum(base=Fraction(-1), choose=1, rise=1), 1), 0)

    def test_against_the_definition(self):
        weights = [ONE, Poly2.line(1, 0, 3), Poly2.line(0, 1, 0), greatest_weight(random.Random(1))]
        for weight, (choose, rise, central), order in itertools.product(weights, KINDS, [0, 1, 2, 3, 6]):
            s = binomial_sum(weight, Fraction(1), choose, rise, central)
            greatest = max(column(s, order, j).degree_k for j in range(order + 1))
            for base in BASES:
                s = binomial_sum(weight, base, choose, rise, central)
                self.assertEqual(certificate_degree(s, order), self.by_definition(s, order, greatest))

    def test_cases(self):
        # base (-1) ** choose 4 ** central is -2, 1 with choose different from rise, and 1 with both equal.
        self.assertEqual(certificate_degree(binomial_sum(base=Fraction(2)), 3), 2)
        self.assertEqual(certificate_degree(binomial_sum(base=Fraction(-1)), 3), 3)
        self.assertEqual(certificate_degree(binomial_sum(base=Fraction(-1), rise=1), 3), 2)
        self.assertEqual(certificate_degree(binomial_sum(base=Fraction(-1, 16), rise=1, central=2), 3), 1)
        self.assertEqual(certificate_degree(binomial_sum(base=Fraction(-1, 4), rise=1, central=1), 3), 1)
        self.assertEqual(certificate_degree(binomial_sum(choose=2, rise=2), 1), 0)

    def test_negative_bounds(self):
        for choose, rise, central in KINDS:
            s = binomial_sum(base=Fraction(3), choose=choose, rise=rise, central=central)
            self.assertEqual(certificate_degree(s, 0), -1)
        self.assertEqual(certificate_degree(binomial_sum(choose=2, rise=2), 0), -1)
        self.assertEqual(certificate_degree(binomial_sum(Poly2.in_k(Poly([0, 0, 0, 1])), choose=4), 0), 0)


class EquationsTest(unittest.TestCase):
    def check(self, s, order):
        found = equations(s, order)
        self.assertIs(type(found), tuple)
        rows, width = found
        degree = certificate_degree(s, order)
        self.assertEqual(width, order + 1 + degree + 1)
        parts = [column(s, order, j) for j in range(order + 1)]
        parts += [backward(s) * Poly2.in_k(Poly([0, 1])).power(i) - forward(s, order) * Poly2.line(0, 1, 1).power(i)
                  for i in range(degree + 1)]
        self.assertEqual(len(rows), 1 + max(part.degree_k for part in parts))
        for e, row in enumerate(rows):
            self.assertEqual(type(row), list)
            self.assertEqual(row, [part.row(e) for part in parts])
        return rows, width

    def test_all_kinds_and_orders(self):
        source = random.Random(1)
        for base, (choose, rise, central) in itertools.product(BASES, KINDS):
            s = binomial_sum(source.choice([ONE, greatest_weight(source)]), base, choose, rise, central)
            for order in [0, source.randint(1, 3), 6]:
                self.check(s, order)

    def test_negative_degree_bound(self):
        rows, width = self.check(binomial_sum(Poly2.line(2, 3, 4), Fraction(3), 2), 0)
        self.assertEqual((rows, width), ([[Poly([4, 2])], [Poly([3])]], 1))

    def test_rows_say_the_equation(self):
        source = random.Random(2)
        for choose, rise, central in KINDS:
            s = binomial_sum(greatest_weight(source), source.choice(BASES[:6]), choose, rise, central)
            for order in range(3):
                rows, width = equations(s, order)
                vector = [Poly([source.randint(-5, 5) for _ in range(3)]) for _ in range(width)]
                found = []
                for row in rows:
                    total = Poly([])
                    for p, q in zip(row, vector):
                        total = total + p * q
                    found.append(total)
                self.assertEqual(Poly2(found), telescoped(s, order, vector))

    def check_telescoper(self, s, order, vector):
        self.assertEqual(telescoped(s, order, vector), ZERO)
        self.assertTrue(any(not p.is_zero for p in vector[:order + 1]))
        values = [s.value(n) for n in range(12 + order)]
        for n in range(12):
            self.assertEqual(sum_of([vector[j].at(n) * values[n + j] for j in range(order + 1)]), Fraction(0))

    def test_kernels_are_telescopers(self):
        for base, (choose, rise, central) in itertools.product([Fraction(1), Fraction(-1), Fraction(3, 2)], KINDS):
            s = binomial_sum(ONE, base, choose, rise, central)
            for order in [s.factors, 6]:
                answer = poly_kernel(*equations(s, order))
                self.assertEqual(answer[0], "vector")
                self.check_telescoper(s, order, answer[1])

    def test_least_orders(self):
        # The sums of powers of binomial coefficients: 2 ** n, binomial(2 n, n), and those of Franel.
        for choose, order in [(1, 1), (2, 1), (3, 2), (4, 2)]:
            s = binomial_sum(choose=choose)
            kinds = [poly_kernel(*equations(s, j))[0] for j in range(order + 1)]
            self.assertEqual(kinds, ["point"] * order + ["vector"])
        kind, vector = poly_kernel(*equations(binomial_sum(choose=2, rise=2), 2))
        # (n + 1) ** 3 S(n) - (2 n + 3) (17 n (n + 3) + 39) S(n + 1) + (n + 2) ** 3 S(n + 2) = 0 for Apery's numbers.
        self.assertEqual(vector[0] * Poly([8, 12, 6, 1]), vector[2] * Poly([1, 3, 3, 1]))
        self.assertEqual(vector[1] * Poly([1, 3, 3, 1]), vector[0] * Poly([-117, -231, -153, -34]))

    def test_weights_of_the_greatest_degrees(self):
        source = random.Random(3)
        for choose, rise, central in [(1, 0, 0), (1, 1, 0), (2, 0, 1), (4, 0, 0), (2, 2, 0), (1, 1, 2)]:
            s = binomial_sum(greatest_weight(source), Fraction(1), choose, rise, central)
            rows, width = self.check(s, s.factors)
            kind, vector = poly_kernel(rows, width)
            self.assertEqual(kind, "vector")
            self.check_telescoper(s, s.factors, vector)

    def test_large_numbers(self):
        s = binomial_sum(greatest_weight(random.Random(4), HUGE), Fraction(HUGE - 1, HUGE), 1, 1, 0)
        self.check(s, 1)

    def test_results_may_be_changed(self):
        s = binomial_sum(choose=2)
        kept = equations(s, 1)
        rows, width = equations(s, 1)
        rows[0][0] = Poly([99])
        rows[1].clear()
        rows.pop()
        self.assertEqual(equations(s, 1), kept)


if __name__ == "__main__":
    unittest.main()
