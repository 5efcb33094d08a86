"""certsums.writing: promise [43]."""

import sys
import unittest

from certsums.binomialsum import BinomialSum
from certsums.fraction import Fraction
from certsums.intlists import decimal, from_digits
from certsums.operator import Operator
from certsums.poly import Poly
from certsums.poly2 import Poly2
from certsums.quotient import Quotient
from certsums.row import Row
from certsums.term import Term
from certsums.termbuild import factorial_term, power_term
from certsums.writing import write_certificate, write_thing

P0, P1 = Poly([]), Poly([1])


class CertificateTest(unittest.TestCase):
    def check(self, certificate, text):
        self.assertEqual(write_certificate(certificate), text)

    def test_closed(self):
        self.check(("closed", Quotient(Poly([1, -3], 2), Poly([0, 0, 1]))), "closed [1/2 -3/2]:[0 0 1]")
        self.check(("closed", Quotient(P0, P1)), "closed []:[1]")

    def test_open(self):
        u = Poly2([Poly([0, 1]), P0, Poly([-1], 3)])
        self.check(("open", P1, Poly([2, 4], 6), P0, u, Poly2([]), Poly([-5]), (Fraction(0), Fraction(-3, 4), Fraction(7))),
                   "open [1] [1/3 2/3] [] {[0 1] [] [-1/3]} {} [-5] (0 -3/4 7)")
        self.check(("open", P0, P0, P0, Poly2([]), Poly2([]), P0, ()), "open [] [] [] {} {} [] ()")

    def test_recurrence(self):
        operator = Operator([Poly([-2, -4]), Poly([1, 1])])
        self.check(("recurrence", 1, operator, Poly2([Poly([3])])), "recurrence 1 <[-2 -4] [1 1]> {[3]}")
        self.check(("recurrence", 0, Operator([]), Poly2([])), "recurrence 0 <> {}")
        self.check(("recurrence", 6, Operator([P0, P1]), Poly2([P0, P1])), "recurrence 6 <[] [1]> {[] [1]}")

    def test_none(self):
        self.check(("none", 0, 0, ((Fraction(1),),)), "none 0 0 ((1))")
        self.check(("none", 12, -34, ((Fraction(1, 2), Fraction(0)), (Fraction(-1), Fraction(5, 3)))),
                   "none 12 -34 ((1/2 0) (-1 5/3))")
        self.check(("none", 1, 2, ()), "none 1 2 ()")
        self.check(("none", 1, 2, ((), (), ())), "none 1 2 (() () ())")

    def test_rows(self):
        self.check(("equal", Operator([]), Operator([Poly([0, 1], 2)])), "equal <> <[0 1/2]>")
        self.check(("different", 0), "different 0")
        self.check(("different", 2999), "different 2999")


class ThingTest(unittest.TestCase):
    def test_example(self):
        self.assertEqual(write_thing(power_term(Fraction(1, 2), 0)), "term 0 1 [1/2]:[1]")

    def test_terms(self):
        self.assertEqual(write_thing(factorial_term(3, -2)), "term -2 1 [4 1]:[1]")
        term = Term(10, Fraction(-2, 3), Quotient(Poly([1, 1]), Poly([0, 5])))
        self.assertEqual(write_thing(term), "term 10 -2/3 [1/5 1/5]:[0 1]")

    def test_sums(self):
        s = BinomialSum(Poly2.line(1, -2, 3), Fraction(-1, 4), choose=2, rise=0, central=1)
        self.assertEqual(write_thing(s), "sum {[3 1] [-2]} -1/4 2 0 1")

    def test_rows(self):
        row = Row(Operator([Poly([-1]), Poly([-1]), P1]), [Fraction(0), Fraction(1, 2)])
        self.assertEqual(write_thing(row), "row <[-1] [-1] [1]> (0 1/2)")
        self.assertEqual(write_thing(Row(Operator([P1]), [])), "row <[1]> ()")


class LongNumbersTest(unittest.TestCase):
    def test_written(self):
        # Python itself refuses to write numbers of more than 4300 digits.
        for count in [1, 899, 903, 904, 905, 1000, 4299, 4300, 4301, 9000, 20000]:
            for number in [10 ** count, 10 ** count - 1, 10 ** count + 7 * 10 ** (count // 2), -10 ** count]:
                text = decimal(number)
                sign, digits = ("-", text[1:]) if number < 0 else ("", text)
                self.assertEqual(len(digits), count if number == 10 ** count - 1 else count + 1)
                self.assertTrue(set(digits) <= set("0123456789") and digits[0] != "0")
                self.assertEqual(from_digits(digits), abs(number))
        self.assertEqual(write_certificate(("different", 10 ** 5000)), "different 1" + "0" * 5000)

    def test_against_python(self):
        for number in [0, 1, -1, 9, 10, 10 ** 18, -123456789, 3 ** 1886, 3 ** 1887, 3 ** 8000, -7 ** 5000]:
            if hasattr(sys, "set_int_max_str_digits"):
                kept = sys.get_int_max_str_digits()
                sys.set_int_max_str_digits(0)
                expected = str(number)
                sys.set_int_max_str_digits(kept)
                self.assertEqual(decimal(number), expected)


if __name__ == "__main__":
    unittest.main()
