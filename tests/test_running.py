"""certsums.running: promises [21], [26] and [27]."""

import random
import unittest

from certsums.degree import degree_bound
from certsums.distance import distances
from certsums.errors import ZeroPolynomial
from certsums.fraction import Fraction, sum_of
from certsums.margin import roots_from
from certsums.normalform import normal_form
from certsums.poly import Poly
from certsums.poly2 import Poly2
from certsums.quotient import Quotient
from certsums.running import closed_value, running_sum
from certsums.term import Term
from certsums.termbuild import difference_term, factorial_term, power_term, quotient_term

HUGE = 10 ** 400 - 1
ONE = Poly([1])
K = Poly([0, 1])
UNIT = Quotient(ONE, ONE)


def with_roots(roots):
    found = ONE
    for root in roots:
        found = found * Poly([-root, 1])
    return found


class RunningTest(unittest.TestCase):
    def check(self, ratio):
        kept = (ratio.num.coefs, ratio.num.den, ratio.den.coefs, ratio.den.den)
        found = running_sum(ratio)
        self.assertIs(type(found), tuple)
        if found[0] == "closed":
            self.assertEqual(len(found), 2)
            self.assertEqual(ratio * found[1].shifted(1) - found[1], UNIT)
        else:
            self.check_open(ratio, found)
        self.assertEqual(running_sum(ratio), found)
        self.assertEqual((ratio.num.coefs, ratio.num.den, ratio.den.coefs, ratio.den.den), kept)
        return found[0]

    def check_open(self, ratio, certificate):
        kind, a, b, c, u, v, w, f = certificate
        self.assertEqual(kind, "open")
        self.assertEqual(Quotient(a * c.shifted(1), b * c), ratio)
        self.assertEqual(distances(a, b), [])
        self.assertEqual(u * Poly2.in_k(a) + v * Poly2.of_sum(b), Poly2.in_n(w))
        self.assertFalse(w.is_zero)
        self.assertEqual(roots_from(w, start=0), [])
        self.assertIs(type(f), tuple)
        self.assertTrue(all(isinstance(x, Fraction) for x in f))

        def number(p):
            return sum_of([x * p.coefficient(e) for e, x in enumerate(f)])

        self.assertNotEqual(number(c), Fraction(0))
        for i in range(degree_bound(a, b, c) + 1):
            p = a * Poly([1, 1]).power(i) - b.shifted(-1) * K.power(i)
            self.assertEqual(number(p), Fraction(0))


class RunningSumTest(RunningTest):
    def test_example(self):
        self.assertEqual(running_sum(Quotient(K, Poly([1, 1])))[0], "open")
        self.assertEqual(self.check(Quotient(K, Poly([1, 1]))), "open")

    def test_ratio_1(self):
        self.assertEqual(self.check(UNIT), "closed")
        kind, y = running_sum(UNIT)
        self.assertEqual((y.num.degree, y.num.lead, y.den), (1, Fraction(1), ONE))

    def test_closed_forms_that_are_constants(self):
        for x in [Fraction(2), Fraction(-1), Fraction(1, 2), Fraction(HUGE, 3)]:
            kind, y = running_sum(Quotient.whole(Poly.constant(x)))
            self.assertEqual((kind, y), ("closed", Quotient.whole(Poly.constant(Fraction(1).over(x - Fraction(1))))))

    def test_classical_terms(self):
        # k k!, 1 / (k (k + 1)) and k 2 ** k are closed, k!, 1 / k, 1 / k ** 2 and 2 ** k / k are open.
        for ratio in [Quotient(Poly([1, 2, 1]), K), Quotient(K, Poly([2, 1])), Quotient(Poly([2, 2]), K)]:
            self.assertEqual(self.check(ratio), "closed")
        for ratio in [Quotient.whole(Poly([1, 1])), Quotient(K, Poly([1, 1])), Quotient(K * K, Poly([1, 2, 1])),
                      Quotient(Poly([0, 2]), Poly([1, 1])), Quotient(ONE, Poly([1, 1]))]:
            self.assertEqual(self.check(ratio), "open")

    def test_negative_degree_bound(self):
        ratio = Quotient.whole(Poly([1, 1]))
        self.assertEqual(degree_bound(*normal_form(ratio)), -1)
        self.assertEqual(self.check(ratio), "open")
        ratio = Quotient(ONE, Poly([3, 1]))
        self.assertEqual(degree_bound(*normal_form(ratio)), -1)
        self.assertEqual(self.check(ratio), "open")

    def test_differences_are_closed(self):
        source = random.Random(1)
        for _ in range(150):
            y = Quotient(with_roots([source.randint(-3, 3) for _ in range(source.randint(0, 2))]) * Poly([1, 0, 1]),
                         with_roots([source.randint(-3, 3) for _ in range(source.randint(0, 2))]))
            y = y * Quotient.whole(Poly([source.choice([-2, 1, 5]), source.randint(0, 1)]))
            top = y + UNIT
            if not (y.is_zero or top.is_zero):
                self.assertEqual(self.check(top.over(y.shifted(1))), "closed")

    def test_random(self):
        source = random.Random(2)
        kinds = []
        for _ in range(200):
            num, den = [with_roots([source.randint(-4, 4) for _ in range(source.randint(0, 4))])
                        .scaled(Fraction(source.choice([-2, 1, 1, 3]))) for _ in range(2)]
            kinds.append(self.check(Quotient(num, den)))
        self.assertGreater(min(kinds.count("closed"), kinds.count("open")), 10)

    def test_bounds_of_the_ratio(self):
        num, den = with_roots(range(-20, -14)), with_roots(range(6))
        self.assertEqual(self.check(Quotient(den, num).over(Quotient.whole(Poly([2])))), "open")
        self.assertEqual(self.check(Quotient(den, num)), "open")
        self.check(Quotient(num.shifted(5), den.shifted(5)))
        self.check(Quotient(with_roots([-16] * 6).scaled(Fraction(1, 3)), with_roots([0] * 6)))
        self.check(Quotient(Poly([HUGE, 1, 3, HUGE]), Poly([7, HUGE, 2, HUGE])))

    def test_degree_bound_100(self):
        for ratio in [Quotient(Poly([101, 1]), Poly([1, 1])), Quotient(Poly([300, 3]), Poly([0, 2])),
                      Quotient(Poly([-99, 1]), Poly([1, 1]))]:
            self.check(ratio)
        # In these, the second number of the bound is the greater one.
        ratio = Quotient(Poly([-100, 1]), Poly([1, 1]))
        self.assertEqual(degree_bound(*normal_form(ratio)), 100)
        self.assertEqual(self.check(ratio), "closed")
        ratio = Quotient(Poly([-100, 1]) * Poly([5, 2, 1]), Poly([1, 1]) * Poly([5, 2, 1]).shifted(1))
        self.assertEqual(degree_bound(*normal_form(ratio)), 100)
        self.assertEqual(self.check(ratio), "open")

    def test_zero(self):
        with self.assertRaises(ZeroPolynomial):
            running_sum(Quotient(Poly([]), ONE))


class ClosedValueTest(RunningTest):
    def check_values(self, term, count=8):
        kind, y = running_sum(term.ratio)
        self.assertEqual(kind, "closed")
        self.assertEqual(roots_from(y.den, start=term.start), [])
        for last in range(term.start - 1, term.start + count):
            self.assertEqual(closed_value(term, y, last), term.partial_sum(last))
            if last >= term.start:
                step = y.at(last + 1) * term.value(last + 1) - y.at(last) * term.value(last)
                self.assertEqual(step, term.value(last))

    def test_values(self):
        self.check_values(power_term(Fraction(2), 0))
        self.check_values(power_term(Fraction(1), -7))
        self.check_values(factorial_term(0, 1).times(quotient_term(Quotient.whole(K), 1)))
        self.check_values(Term(1, Fraction(1, 2), Quotient(K, Poly([2, 1]))))
        self.check_values(difference_term(factorial_term(3, -1)))
        self.check_values(difference_term(quotient_term(Quotient(Poly([1, 0, 1]), Poly([-3, 1])), 8)))
        self.check_values(Term(1, Fraction(-5, 3), Quotient(Poly([4, 1]), K)))

    def test_empty_sum(self):
        term = power_term(Fraction(3), 5)
        self.assertEqual(closed_value(term, running_sum(term.ratio)[1], 4), Fraction(0))

    def test_all_closed_forms_of_one_ratio(self):
        # Each constant may be added to the closed form k of the ratio 1.
        term = power_term(Fraction(1), 3)
        for constant in [-7, 0, 2]:
            self.assertEqual(closed_value(term, Quotient.whole(Poly([constant, 1])), 9), Fraction(7))

    def test_bounds(self):
        term = power_term(Fraction(2), 0)
        self.assertEqual(closed_value(term, running_sum(term.ratio)[1], 2999), Fraction(2 ** 3000 - 1))


if __name__ == "__main__":
    unittest.main()
