"""certsums.definite: promises [30], [33] and [34], and [2] to [4] for them."""

import itertools
import random
import unittest

from certsums.binomialsum import BinomialSum
from certsums.definite import least_recurrence, recurrence
from certsums.fraction import Fraction
from certsums.matrix import identity, multiply
from certsums.operator import Operator
from certsums.poly import Poly
from certsums.poly2 import Poly2
from certsums.telescoping import backward, certificate_degree, column, equations, forward

ONE = Poly2([Poly([1])])
WEIGHT = Poly2([Poly([1, 2, 0, 4]), Poly([5, 1], 3), Poly([7]), Poly([1, 0, 1])])
CASES = [(ONE, Fraction(1)), (ONE, Fraction(-1)), (ONE, Fraction(1, 4)), (WEIGHT, Fraction(3, 2))]
KINDS = [(choose, rise, central) for choose in range(1, 5) for rise in range(4) for central in range(4)
         if choose + rise + central <= 4]


def binomial_sum(weight=ONE, base=Fraction(1), choose=1, rise=0, central=0):
    return BinomialSum(weight, base, choose=choose, rise=rise, central=central)


class DefiniteTest(unittest.TestCase):
    def check(self, s, order):
        found = recurrence(s, order=order)
        self.assertIs(type(found), tuple)
        self.assertEqual(len(found), 4)
        self.assertEqual(found[1], order)
        if found[0] == "recurrence":
            self.check_telescoper(s, order, found[2], found[3])
        else:
            self.check_none(s, found)
        return found[0]

    def check_telescoper(self, s, order, operator, m):
        self.assertIsInstance(operator, Operator)
        self.assertIsInstance(m, Poly2)
        self.assertTrue(0 <= operator.order <= order)
        total = Poly2([])
        for j, p in enumerate(operator.coefs):
            total = total + Poly2.in_n(p) * column(s, order, j)
        self.assertEqual(total, forward(s, order) * m.moved(0, 1) - backward(s) * m)
        values = [s.value(n) for n in range(8 + order)]
        self.assertEqual([operator.apply_at(values, n) for n in range(8)], [Fraction(0)] * 8)

    def check_none(self, s, certificate):
        kind, order, n, inverse = certificate
        self.assertEqual(kind, "none")
        self.assertGreaterEqual(n, 0)
        self.assertTrue(type(inverse) is tuple and all(type(row) is tuple for row in inverse))
        rows, width = equations(s, order)
        self.assertEqual([len(row) for row in inverse], [len(rows)] * width)
        self.assertEqual(multiply([list(row) for row in inverse], [[p.at(n) for p in row] for row in rows], width),
                         identity(width))


class RecurrenceTest(DefiniteTest):
    def test_all_kinds(self):
        for (weight, base), (choose, rise, central) in itertools.product(CASES, KINDS):
            s = binomial_sum(weight, base, choose, rise, central)
            # A telescoper of an order gives one of each greater order.
            kinds = [self.check(s, order) for order in range(s.factors)]
            self.assertEqual(sorted(kinds), kinds)
            self.assertEqual(self.check(s, s.factors), "recurrence")

    def test_greatest_order(self):
        for choose, rise, central in KINDS:
            self.assertEqual(self.check(binomial_sum(choose=choose, rise=rise, central=central), 6), "recurrence")

    def test_order_0(self):
        # The sums of (-1) ** k binomial(n, k) are 0 for n > 0, those of binomial(n, k) are not.
        kind, order, operator, m = recurrence(binomial_sum(base=Fraction(-1)), order=0)
        self.assertEqual((kind, order, operator.order), ("recurrence", 0, 0))
        self.assertEqual(operator.lead.at(0), Fraction(0))
        self.assertEqual(self.check(binomial_sum(base=Fraction(-1)), 0), "recurrence")
        self.assertEqual(self.check(binomial_sum(), 0), "none")

    def test_powers_of_two(self):
        kind, order, operator, m = recurrence(binomial_sum(), order=1)
        self.assertEqual((kind, order), ("recurrence", 1))
        self.assertEqual(operator.coefs[0], operator.coefs[1] * Poly([-2]))

    def test_sums_of_apery(self):
        s = binomial_sum(choose=2, rise=2)
        self.assertEqual([self.check(s, order) for order in range(4)], ["none", "none", "recurrence", "recurrence"])
        kind, order, operator, m = recurrence(s, order=2)
        self.assertEqual(operator.coefs[0] * Poly([8, 12, 6, 1]), operator.coefs[2] * Poly([1, 3, 3, 1]))
        self.assertEqual(operator.coefs[1] * Poly([1, 3, 3, 1]), operator.coefs[0] * Poly([-117, -231, -153, -34]))

    def test_equal_answers_for_equal_arguments(self):
        s = binomial_sum(WEIGHT, Fraction(3, 2), 2, 1, 0)
        for order in range(4):
            first, second = recurrence(s, order=order), recurrence(s, order=order)
            self.assertEqual(first, second)
        self.assertEqual(s, binomial_sum(WEIGHT, Fraction(3, 2), 2, 1, 0))

    def test_bounds(self):
        huge = 10 ** 400 - 1
        source = random.Random(1)
        weight = Poly2([Poly([source.randint(-huge, huge) for _ in range(4)]) for _ in range(4)])
        for choose, rise, central in [(1, 0, 0), (2, 0, 0), (1, 1, 0), (1, 0, 1)]:
            s = binomial_sum(weight, Fraction(1), choose, rise, central)
            self.assertEqual(self.check(s, s.factors), "recurrence")
            s = binomial_sum(ONE, Fraction(huge - 1, huge), choose, rise, central)
            self.assertEqual(self.check(s, s.factors), "recurrence")
            self.assertEqual(self.check(s, 0), "none")


class LeastRecurrenceTest(DefiniteTest):
    def test_example(self):
        self.assertEqual(len(least_recurrence(binomial_sum())), 2)

    def test_all_kinds(self):
        for (weight, base), (choose, rise, central) in itertools.product(CASES[1:2] + CASES[3:], KINDS):
            s = binomial_sum(weight, base, choose, rise, central)
            answers = least_recurrence(s)
            self.assertIs(type(answers), list)
            self.assertLessEqual(len(answers), s.factors + 1)
            self.assertEqual([answer[0] for answer in answers], ["none"] * (len(answers) - 1) + ["recurrence"])
            self.assertEqual([answer[1] for answer in answers], list(range(len(answers))))
            self.assertEqual(answers[-1][2].order, len(answers) - 1)
            self.assertEqual(answers, [recurrence(s, order=order) for order in range(len(answers))])

    def test_known_orders(self):
        for choose, rise, central, base, order in [
                (1, 0, 0, 1, 1), (1, 0, 0, -1, 0), (2, 0, 0, 1, 1), (3, 0, 0, 1, 2), (4, 0, 0, 1, 2), (1, 1, 0, 1, 2),
                (1, 1, 0, -1, 1), (2, 1, 0, 1, 2), (2, 2, 0, 1, 2), (2, 0, 1, 1, 2)]:
            s = binomial_sum(ONE, Fraction(base), choose, rise, central)
            self.assertEqual(len(least_recurrence(s)) - 1, order, (choose, rise, central, base))

    def test_certificates_with_a_negative_degree_bound(self):
        s = binomial_sum(base=Fraction(3))
        self.assertEqual(certificate_degree(s, 0), -1)
        self.assertEqual(self.check(s, 0), "none")

    def test_lists_may_be_changed(self):
        s = binomial_sum(choose=2)
        kept = least_recurrence(s)
        found = least_recurrence(s)
        found.clear()
        self.assertEqual(least_recurrence(s), kept)


if __name__ == "__main__":
    unittest.main()
