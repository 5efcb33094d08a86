"""certsums.rowbuild: promise [37], and [2] to [4] for it."""

import random
import unittest

from certsums.binomialsum import BinomialSum
from certsums.division import common_divisor_of
from certsums.errors import InvalidRow
from certsums.fraction import Fraction
from certsums.operator import Operator
from certsums.poly import Poly
from certsums.poly2 import Poly2
from certsums.quotient import Quotient
from certsums.row import Row, needed
from certsums.rowbuild import (add_rows, move_row, multiply_rows, partial_sums, row_by_operator, row_of_sum, row_of_term,
                               scale_row)
from certsums.term import Term
from certsums.termbuild import factorial_term, power_term, quotient_term

ONE = Poly2([Poly([1])])
FIBONACCI = Operator([Poly([-1]), Poly([-1]), Poly([1])])
KINDS = [(choose, rise, central) for choose in range(1, 5) for rise in range(4) for central in range(4)
         if choose + rise + central <= 4]


def fractions(numbers):
    return [Fraction(x) for x in numbers]


def binomial_sum(weight=ONE, base=Fraction(1), choose=1, rise=0, central=0):
    return BinomialSum(weight, base, choose=choose, rise=rise, central=central)


def random_row(source, order, spare=3):
    lead = Poly([source.choice([-2, 1, 3])])
    for _ in range(source.randint(0, 2)):
        lead = lead * Poly([source.randint(-3, 3), source.choice([1, 1, 2])])
    coefs = [Poly([source.randint(-3, 3) for _ in range(source.randint(0, 2))], source.randint(1, 2))
             for _ in range(order)]
    operator = Operator(coefs + [lead])
    count = needed(operator) + source.randint(0, spare)
    return Row(operator, [Fraction(source.randint(-5, 5), source.randint(1, 4)) for _ in range(count)])


def random_rows(source, greatest_order):
    orders = [(i, j) for i in range(greatest_order + 1) for j in range(greatest_order + 1)]
    return [(random_row(source, i), random_row(source, j)) for i, j in orders for _ in range(4)]


class SumTest(unittest.TestCase):
    def check(self, s, count=12):
        row = row_of_sum(s)
        self.assertIsInstance(row, Row)
        self.assertEqual(row.prefix(count), [s.value(n) for n in range(count)])
        return row

    def test_all_kinds(self):
        weight = Poly2([Poly([1, 2, 0, 4]), Poly([5, 1], 3), Poly([7]), Poly([1, 0, 1])])
        for choose, rise, central in KINDS:
            self.check(binomial_sum(ONE, Fraction(1), choose, rise, central))
            self.check(binomial_sum(ONE, Fraction(-1, 4), choose, rise, central))
            self.check(binomial_sum(weight, Fraction(3, 2), choose, rise, central))

    def test_sums_that_are_zero(self):
        row = self.check(binomial_sum(base=Fraction(-1)))
        self.assertEqual(row.operator.order, 0)
        self.assertEqual(row.value(0), Fraction(1))
        # The weight n makes all of them zero.
        self.check(binomial_sum(Poly2.line(1, 0, 0), Fraction(-1)))

    def test_weights_with_whole_roots(self):
        for root in [0, 1, 7, 25]:
            for choose in range(1, 4):
                row = self.check(binomial_sum(Poly2.line(1, 0, -root), choose=choose), 40)
                self.assertGreater(len(row.initial), root)
        s = binomial_sum(Poly2.line(1, 0, -2900), choose=2, rise=1)
        row = row_of_sum(s)
        for n in [0, 1, 2899, 2900, 2901, 2910]:
            self.assertEqual(row.value(n), s.value(n))

    def test_by_operator(self):
        s = binomial_sum(choose=2)
        operator = row_of_sum(s).operator
        for factor in [Operator([Poly([-5, 1])]), Operator([Poly([1, 1]), Poly([-3, 1])]), Operator.shift(2)]:
            multiple = factor * operator
            row = row_by_operator(s, multiple)
            self.assertEqual((row.operator, len(row.initial)), (multiple, needed(multiple)))
            self.assertEqual(row.prefix(15), [s.value(n) for n in range(15)])


class TermTest(unittest.TestCase):
    def check(self, term):
        row = row_of_term(term)
        self.assertEqual(row.operator, Operator([-term.ratio.num, term.ratio.den]))
        self.assertEqual(row.initial, (term.first,))
        self.assertEqual(row.prefix(10), [term.value(n) for n in range(10)])

    def test_values(self):
        self.check(power_term(Fraction(2, 3), 0))
        self.check(factorial_term(0, 0))
        self.check(factorial_term(3, 0))
        self.check(quotient_term(Quotient(Poly([1]), Poly([1, 2])), 0))
        self.check(Term(0, Fraction(-5, 7), Quotient(Poly([1, 0, 1]), Poly([3, 4]))))
        self.check(Term(0, Fraction(3), Quotient(Poly([5, 1]), Poly([1, 1]) * Poly([1, 1]))))

    def test_other_starts(self):
        for start in [-3, -1, 1, 2, 2999]:
            with self.assertRaises(InvalidRow):
                row_of_term(power_term(Fraction(2), start))


class CombinationTest(unittest.TestCase):
    def test_known_sums(self):
        powers = row_of_term(power_term(Fraction(2), 0))
        fibonacci = Row(FIBONACCI, fractions([0, 1]))
        self.assertEqual(add_rows(powers, fibonacci).prefix(7), fractions([1, 3, 5, 10, 19, 37, 72]))
        self.assertEqual(multiply_rows(powers, fibonacci).prefix(7), fractions([0, 2, 4, 16, 48, 160, 512]))
        self.assertEqual(multiply_rows(fibonacci, fibonacci).prefix(7), fractions([0, 1, 1, 4, 9, 25, 64]))
        self.assertEqual(partial_sums(fibonacci).prefix(7), fractions([0, 0, 1, 2, 4, 7, 12]))
        self.assertEqual(move_row(fibonacci).prefix(7), fractions([1, 1, 2, 3, 5, 8, 13]))
        self.assertEqual(scale_row(fibonacci, Fraction(1, 2)).prefix(3), [Fraction(0), Fraction(1, 2), Fraction(1, 2)])

    def test_least_orders(self):
        fibonacci = Row(FIBONACCI, fractions([0, 1]))
        other = Row(FIBONACCI, fractions([2, 1]))
        self.assertEqual(add_rows(fibonacci, other).operator.order, 2)
        self.assertEqual(multiply_rows(fibonacci, other).operator.order, 3)
        factorials = row_of_term(factorial_term(0, 0))
        self.assertEqual(multiply_rows(factorials, factorials).operator.order, 1)
        self.assertEqual(multiply_rows(factorials, fibonacci).operator.order, 2)

    def test_products_have_no_common_factor(self):
        # A factor of all coefficients might have whole roots, for which more first values would be needed.
        for first, second in random_rows(random.Random(7), 2):
            self.assertEqual(common_divisor_of(list(multiply_rows(first, second).operator.coefs)), Poly([1]))

    def test_addition(self):
        for first, second in random_rows(random.Random(1), 3):
            row = add_rows(first, second)
            self.assertEqual(row.prefix(16), [x + y for x, y in zip(first.prefix(16), second.prefix(16))])

    def test_multiplication(self):
        for first, second in random_rows(random.Random(2), 2):
            row = multiply_rows(first, second)
            self.assertEqual(row.prefix(16), [x * y for x, y in zip(first.prefix(16), second.prefix(16))])

    def test_scaling(self):
        source = random.Random(3)
        for order in range(4):
            for factor in [Fraction(0), Fraction(1), Fraction(-7, 3), Fraction(10 ** 399, 7)]:
                row = random_row(source, order)
                self.assertEqual(scale_row(row, factor).prefix(12), [x * factor for x in row.prefix(12)])

    def test_partial_sums(self):
        source = random.Random(4)
        for order in range(5):
            for _ in range(10):
                row = random_row(source, order)
                totals = [Fraction(0)]
                for x in row.prefix(12):
                    totals.append(totals[-1] + x)
                found = partial_sums(row)
                self.assertEqual(found.value(0), Fraction(0))
                self.assertEqual(found.prefix(13), totals)

    def test_moving(self):
        source = random.Random(5)
        for order in range(5):
            for _ in range(10):
                row = random_row(source, order)
                expected = row.prefix(14)
                for steps in range(1, 4):
                    row = move_row(row)
                    self.assertEqual(row.prefix(11), expected[steps:steps + 11])

    def test_order_0(self):
        zero = Row(Operator([Poly([1])]), [])
        few = Row(Operator([Poly([-2, 1])]), fractions([4, 5, 6]))
        fibonacci = Row(FIBONACCI, fractions([3, 1]))
        self.assertEqual(add_rows(zero, few).prefix(5), fractions([4, 5, 6, 0, 0]))
        self.assertEqual(add_rows(few, fibonacci).prefix(5), fractions([7, 6, 10, 5, 9]))
        self.assertEqual(multiply_rows(few, fibonacci).prefix(5), fractions([12, 5, 24, 0, 0]))
        self.assertEqual(multiply_rows(zero, zero).prefix(2), fractions([0, 0]))
        self.assertEqual(partial_sums(few).prefix(5), fractions([0, 4, 9, 15, 15]))
        self.assertEqual(partial_sums(zero).prefix(2), fractions([0, 0]))
        self.assertEqual(move_row(few).prefix(3), fractions([5, 6, 0]))
        self.assertEqual(move_row(zero).prefix(2), fractions([0, 0]))

    def test_chains(self):
        # Sums of squares of sums: objects that the program made may be passed in again.
        row = row_of_term(factorial_term(0, 0))
        row = multiply_rows(partial_sums(row), partial_sums(row))
        total = add_rows(move_row(row), scale_row(row, Fraction(-1)))
        lefts = [Fraction(0)]
        for n in range(12):
            lefts.append(lefts[-1] + factorial_term(0, 0).value(n))
        self.assertEqual(total.prefix(12), [lefts[n + 1] * lefts[n + 1] - lefts[n] * lefts[n] for n in range(12)])

    def test_roots_far_out(self):
        first = Row(Operator([Poly([-1]), Poly([-2990, 1])]), fractions(range(2992)))
        second = Row(FIBONACCI, fractions([0, 1]))
        count = 2999
        one, other = first.prefix(count), second.prefix(count)
        self.assertEqual(add_rows(first, second).prefix(count), [x + y for x, y in zip(one, other)])
        self.assertEqual(multiply_rows(first, second).prefix(count), [x * y for x, y in zip(one, other)])

    def test_large_numbers(self):
        huge = 10 ** 400 - 1
        source = random.Random(6)
        first, second = [Row(Operator([Poly([source.randint(-huge, huge) for _ in range(41)]), Poly([1] * 41)]),
                             [Fraction(source.randint(1, huge), huge)]) for _ in range(2)]
        self.assertEqual(add_rows(first, second).value(3), first.value(3) + second.value(3))
        self.assertEqual(multiply_rows(first, second).value(3), first.value(3) * second.value(3))
        self.assertEqual(partial_sums(first).value(3), first.value(0) + first.value(1) + first.value(2))

    def test_arguments_are_unchanged_and_results_equal(self):
        first = Row(FIBONACCI, fractions([0, 1, 1]))
        second = row_of_term(power_term(Fraction(2), 0))
        made = [add_rows(first, second), multiply_rows(first, second), partial_sums(first), move_row(first)]
        self.assertEqual(first, Row(FIBONACCI, fractions([0, 1, 1])))
        self.assertEqual(second, row_of_term(power_term(Fraction(2), 0)))
        self.assertEqual(made, [add_rows(first, second), multiply_rows(first, second), partial_sums(first),
                                move_row(first)])


if __name__ == "__main__":
    unittest.main()
