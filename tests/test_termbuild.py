"""certsums.termbuild: promise [20], with [18]."""

import math
import unittest

from certsums.errors import InvalidTerm
from certsums.fraction import Fraction
from certsums.poly import Poly
from certsums.quotient import Quotient
from certsums.term import Term
from certsums.termbuild import difference_term, factorial_term, power_term, quotient_term

HUGE = 10 ** 400 - 1
ONE = Poly([1])


class PowerTermTest(unittest.TestCase):
    def test_values(self):
        for base in [Fraction(1), Fraction(-1), Fraction(3, 2), Fraction(-1, 7), Fraction(HUGE)]:
            for start in [-3, 0, 4]:
                term = power_term(base, start)
                self.assertEqual(term.start, start)
                self.assertEqual([term.value(k) for k in range(start, start + 5)],
                                 [base.power(k) for k in range(start, start + 5)])

    def test_zero(self):
        for start in [-3, 0, 1, 4]:
            with self.assertRaises(InvalidTerm):
                power_term(Fraction(0), start)

    def test_bounds(self):
        self.assertEqual(power_term(Fraction(2), -2999).value(2999), Fraction(2 ** 2999))
        self.assertEqual(power_term(Fraction(2), 2999).first, Fraction(2 ** 2999))


class FactorialTermTest(unittest.TestCase):
    def test_values(self):
        for offset, start in [(0, 0), (3, -3), (3, -1), (-2, 2), (-2, 5), (7, 0)]:
            term = factorial_term(offset, start)
            self.assertEqual(term.start, start)
            for k in range(start, start + 5):
                self.assertEqual(term.value(k), Fraction(math.factorial(k + offset)))

    def test_negative_numbers_have_no_factorial(self):
        for offset, start in [(0, -1), (3, -4), (-1, 0), (-5, 4), (0, -2999)]:
            with self.assertRaises(InvalidTerm):
                factorial_term(offset, start)

    def test_bounds(self):
        self.assertEqual(factorial_term(2999, -2999).first, Fraction(1))
        self.assertEqual(factorial_term(-2999, 2999).value(3000 - 1 + 5), Fraction(120))
        self.assertEqual(factorial_term(0, 0).value(2999), Fraction(math.factorial(2999)))


class QuotientTermTest(unittest.TestCase):
    def test_values(self):
        y = Quotient(Poly([1, 1]), Poly([-6, 2]))
        for start in [4, 9]:
            term = quotient_term(y, start)
            self.assertEqual(term.start, start)
            self.assertEqual([term.value(k) for k in range(start, start + 6)],
                             [y.at(k) for k in range(start, start + 6)])
        self.assertEqual(quotient_term(Quotient.whole(Poly([-1, 2])), -5).value(0), Fraction(-1))
        self.assertEqual(quotient_term(Quotient.whole(Poly([5], 3)), 0), Term(0, Fraction(5, 3), Quotient(ONE, ONE)))

    def test_zero(self):
        with self.assertRaises(InvalidTerm):
            quotient_term(Quotient(Poly([]), ONE), 0)

    def test_start_at_a_zero_or_a_pole_or_before(self):
        for y in [Quotient.whole(Poly([-7, 1])), Quotient(ONE, Poly([-7, 1])),
                  Quotient(Poly([-7, 1]), Poly([3, 1])), Quotient(Poly([3, 1]), Poly([49, -14, 1]))]:
            for start in [-2999, 0, 6, 7]:
                with self.assertRaises(InvalidTerm):
                    quotient_term(y, start)
            self.assertEqual(quotient_term(y, 8).value(9), y.at(9))

    def test_zeros_that_cancel_in_the_ratio(self):
        # The ratio of k (k + 1) .. (k + 5) is (k + 6) / k, without the zeros in between.
        y = ONE
        for i in range(6):
            y = y * Poly([i, 1])
        for start in [-5, -3, 0]:
            with self.assertRaises(InvalidTerm):
                quotient_term(Quotient.whole(y), start)
        self.assertEqual(quotient_term(Quotient.whole(y), 1).first, Fraction(720))


class DifferenceTermTest(unittest.TestCase):
    def check(self, term, count=6):
        found = difference_term(term)
        self.assertEqual(found.start, term.start)
        for k in range(term.start, term.start + count):
            self.assertEqual(found.value(k), term.value(k + 1) - term.value(k))

    def test_values(self):
        self.check(power_term(Fraction(3, 2), -4))
        self.check(factorial_term(0, 1))
        self.check(quotient_term(Quotient(Poly([1, 0, 1]), Poly([3, 1])), 3))
        self.check(factorial_term(2, 0).times(power_term(Fraction(-2, 3), -1)))

    def test_constant_terms(self):
        for start in [-3, 0, 5]:
            with self.assertRaises(InvalidTerm):
                difference_term(power_term(Fraction(1), start))

    def test_zero_differences(self):
        # 0! and 1! are equal, k ** 2 - 10 k + 26 has no equal neighbours, and k ** 2 - 9 k + 26 is equal at 4 and 5.
        with self.assertRaises(InvalidTerm):
            difference_term(factorial_term(0, 0))
        self.check(quotient_term(Quotient.whole(Poly([26, -10, 1])), 0))
        other = Poly([26, -9, 1])
        with self.assertRaises(InvalidTerm):
            difference_term(quotient_term(Quotient.whole(other), 0))
        with self.assertRaises(InvalidTerm):
            difference_term(quotient_term(Quotient.whole(other), 4))
        self.check(quotient_term(Quotient.whole(other), 5))

    def test_arguments_stay(self):
        term = factorial_term(0, 1)
        self.assertEqual(difference_term(term), difference_term(term))
        self.assertEqual(term, factorial_term(0, 1))


if __name__ == "__main__":
    unittest.main()
