"""certsums.term: promises [18] and [19]."""

import random
import unittest

from certsums.errors import BeforeStart, InvalidTerm
from certsums.fraction import Fraction
from certsums.poly import Poly
from certsums.quotient import Quotient
from certsums.term import Term

HUGE = 10 ** 400 - 1
ONE = Poly([1])
ZERO = Poly([])


def with_roots(roots):
    found = ONE
    for root in roots:
        found = found * Poly([-root, 1])
    return found


def constant(num, den=1):
    return Quotient.whole(Poly([num], den))


def fields(term):
    return (term.start, term.first.num, term.first.den, term.ratio.num.coefs, term.ratio.num.den,
            term.ratio.den.coefs, term.ratio.den.den)


def values_by_steps(term, count):
    found = [term.first]
    for k in range(term.start, term.start + count - 1):
        found.append(found[-1] * term.ratio.at(k))
    return found


FACTORIAL = Term(0, Fraction(1), Quotient.whole(Poly([1, 1])))
HALVES = Term(-3, Fraction(8), constant(1, 2))
HARMONIC = Term(1, Fraction(1), Quotient(Poly([0, 1]), Poly([1, 1])))


class InvalidTermTest(unittest.TestCase):
    def refuse(self, start, first, ratio):
        with self.assertRaises(InvalidTerm):
            Term(start, first, ratio)

    def test_zero_first_value(self):
        self.refuse(0, Fraction(0), constant(1))
        self.refuse(0, Fraction(0), Quotient(ZERO, ONE))

    def test_zero_ratio(self):
        self.refuse(0, Fraction(1), Quotient(ZERO, ONE))

    def test_roots_of_the_numerator(self):
        for start in [-3, 0, 7]:
            ratio = Quotient.whole(with_roots([7, -20]))
            self.refuse(start, Fraction(1), ratio)
        self.assertEqual(Term(8, Fraction(1), ratio).start, 8)
        self.refuse(-20, Fraction(1), Quotient.whole(with_roots([-20])))
        self.assertEqual(Term(-19, Fraction(1), Quotient.whole(with_roots([-20]))).start, -19)
        self.refuse(0, Fraction(1), Quotient.whole(with_roots([10 ** 9 - 1])))

    def test_roots_of_the_denominator(self):
        for start in [-3, 0, 7]:
            ratio = Quotient(ONE, with_roots([7, 7]))
            self.refuse(start, Fraction(1), ratio)
        self.assertEqual(Term(8, Fraction(1), ratio).start, 8)

    def test_other_roots_are_allowed(self):
        # 1/2 and the square roots of 2 are no whole numbers, and the cancelled factor is no pole.
        ratio = Quotient(Poly([-1, 2]) * with_roots([5]), Poly([-2, 0, 1]) * with_roots([5]))
        self.assertEqual(Term(0, Fraction(1), ratio).value(1), Fraction(1, 2))


class ValuesTest(unittest.TestCase):
    def test_fields(self):
        ratio = Quotient(Poly([1]), Poly([2, 1]))
        term = Term(-1, Fraction(3, 4), ratio)
        self.assertEqual((term.start, term.first, term.ratio), (-1, Fraction(3, 4), ratio))

    def test_values(self):
        self.assertEqual([FACTORIAL.value(k).num for k in range(6)], [1, 1, 2, 6, 24, 120])
        self.assertEqual([HALVES.value(k) for k in [-3, -2, 0, 2]],
                         [Fraction(8), Fraction(4), Fraction(1), Fraction(1, 4)])
        self.assertEqual(HARMONIC.value(7), Fraction(1, 7))

    def test_values_against_steps(self):
        source = random.Random(1)
        for _ in range(50):
            start = source.randint(-9, 9)
            num, den = [with_roots([start - source.randint(1, 5) for _ in range(source.randint(0, 3))])
                        .scaled(Fraction(source.randint(1, 9), source.randint(1, 9))) for _ in range(2)]
            term = Term(start, Fraction(source.choice([-1, 1]) * source.randint(1, 9), source.randint(1, 9)),
                        Quotient(num, den))
            expected = values_by_steps(term, 12)
            self.assertEqual([term.value(start + i) for i in range(12)], expected)
            total = Fraction(0)
            self.assertEqual(term.partial_sum(start - 1), total)
            for i in range(12):
                total = total + expected[i]
                self.assertEqual(term.partial_sum(start + i), total)

    def test_before_the_start(self):
        for term in [FACTORIAL, HALVES, HARMONIC]:
            for k in [term.start - 1, term.start - 50]:
                with self.assertRaises(BeforeStart) as caught:
                    term.value(k)
                self.assertEqual(caught.exception.index, k)

    def test_partial_sums_before_the_start(self):
        for last in [-1, -2, -3000]:
            self.assertEqual(FACTORIAL.partial_sum(last), Fraction(0))
        self.assertEqual(HALVES.partial_sum(-4), Fraction(0))
        self.assertEqual(HALVES.partial_sum(-3), Fraction(8))
        self.assertEqual(HARMONIC.partial_sum(0), Fraction(0))

    def test_partial_sums(self):
        self.assertEqual([HARMONIC.partial_sum(n) for n in [1, 2, 3, 4]],
                         [Fraction(1), Fraction(3, 2), Fraction(11, 6), Fraction(25, 12)])
        self.assertEqual(HALVES.partial_sum(2), Fraction(63, 4))

    def test_bounds(self):
        far = Term(-2999, Fraction(1, HUGE), Quotient(Poly([HUGE]), Poly([3000, 1])))
        self.assertEqual(far.value(-2997), Fraction(HUGE, 2))
        self.assertEqual(far.value(-2500).over(far.value(-2501)), Fraction(HUGE, 499))
        rising = Term(-2999, Fraction(1), Quotient.whole(Poly([3000, 1])))
        self.assertEqual(rising.value(2999).over(rising.value(2998)), Fraction(5998))
        ones = Term(-2999, Fraction(1), constant(1))
        self.assertEqual(ones.partial_sum(2999), Fraction(5999))
        geometric = Term(0, Fraction(1), constant(2))
        self.assertEqual(geometric.partial_sum(2999), Fraction(2 ** 3000 - 1))
        self.assertEqual(HARMONIC.partial_sum(2999) - HARMONIC.partial_sum(2998), Fraction(1, 2999))


class MakingTermsTest(unittest.TestCase):
    def test_times_and_over(self):
        for first, second in [(FACTORIAL, HALVES), (HALVES, HARMONIC), (HARMONIC, HARMONIC), (HARMONIC, FACTORIAL)]:
            product, quotient = first.times(second), first.over(second)
            start = max(first.start, second.start)
            self.assertEqual((product.start, quotient.start), (start, start))
            for k in range(start, start + 6):
                self.assertEqual(product.value(k), first.value(k) * second.value(k))
                self.assertEqual(quotient.value(k), first.value(k).over(second.value(k)))
            for term in [product, quotient]:
                with self.assertRaises(BeforeStart):
                    term.value(start - 1)
        self.assertEqual(HARMONIC.over(HARMONIC), Term(1, Fraction(1), constant(1)))

    def test_scaled(self):
        term = HARMONIC.scaled(Fraction(-3, 5))
        self.assertEqual([term.value(k) for k in [1, 3]], [Fraction(-3, 5), Fraction(-1, 5)])
        self.assertEqual(term.start, 1)
        with self.assertRaises(InvalidTerm):
            HARMONIC.scaled(Fraction(0))

    def test_later(self):
        term = HALVES.later(2)
        self.assertEqual(term, Term(2, Fraction(1, 4), constant(1, 2)))
        self.assertEqual(HALVES.later(-3), HALVES)
        for start in [-4, -100]:
            with self.assertRaises(BeforeStart) as caught:
                HALVES.later(start)
            self.assertEqual(caught.exception.index, start)
        with self.assertRaises(BeforeStart):
            term.value(1)

    def test_equality(self):
        self.assertTrue(HALVES == Term(-3, Fraction(16, 2), Quotient(Poly([2]), Poly([4]))))
        self.assertFalse(HALVES == HALVES.later(-2))
        self.assertFalse(HALVES == HALVES.scaled(Fraction(2)))
        self.assertFalse(HALVES == Term(-3, Fraction(8), constant(1, 3)))
        self.assertTrue(HALVES != HARMONIC)
        for other in [1, "term", None, Fraction(8), (-3, Fraction(8), constant(1, 2))]:
            self.assertIs(HALVES == other, False)

    def test_nothing_is_changed(self):
        terms = [FACTORIAL, HALVES, HARMONIC]
        kept = [fields(term) for term in terms]
        for term in terms:
            for call in [lambda: term.times(HARMONIC), lambda: term.over(HARMONIC), lambda: term.scaled(Fraction(2)),
                         lambda: term.later(5), lambda: term.value(5), lambda: term.partial_sum(9)]:
                self.assertEqual(call(), call())
        self.assertEqual([fields(term) for term in terms], kept)


if __name__ == "__main__":
    unittest.main()
