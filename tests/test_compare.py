"""certsums.compare: promises [38] and [39], and [2] to [4] for them."""

import random
import unittest

from certsums.binomialsum import BinomialSum
from certsums.checker import accepts_rows
from certsums.compare import common_multiple, compare_rows, compare_sums
from certsums.errors import InvalidRow
from certsums.fraction import Fraction
from certsums.margin import free_from
from certsums.operator import Operator
from certsums.poly import Poly
from certsums.poly2 import Poly2
from certsums.row import Row, needed
from certsums.rowbuild import add_rows, multiply_rows, partial_sums, row_of_sum, row_of_term, scale_row
from certsums.termbuild import factorial_term, power_term

ONE = Poly2([Poly([1])])
ZERO = Operator([])
FIBONACCI = Operator([Poly([-1]), Poly([-1]), Poly([1])])
LINE = Operator([Poly([1]), Poly([-2]), Poly([1])])


def fractions(numbers):
    return [Fraction(x) for x in numbers]


def binomial_sum(weight=ONE, base=1, choose=1, rise=0, central=0):
    return BinomialSum(weight, Fraction(base), choose=choose, rise=rise, central=central)


def random_operator(source, order, degree=2, size=4):
    coefs = [Poly([source.randint(-size, size) for _ in range(degree + 1)], source.randint(1, 3)) for _ in range(order)]
    return Operator(coefs + [Poly([source.randint(1, size) for _ in range(source.randint(1, degree + 1))])])


class CommonMultipleTest(unittest.TestCase):
    def check(self, first, second):
        found = common_multiple(first, second)
        self.assertIs(type(found), tuple)
        left, right = found
        self.assertEqual(left * first, right * second)
        self.assertFalse((left * first).is_zero)
        return (left * first).order

    def test_random(self):
        source = random.Random(1)
        for i in range(7):
            for j in range(7):
                first, second = random_operator(source, i), random_operator(source, j)
                self.assertLessEqual(self.check(first, second), i + j)

    def test_least_order(self):
        self.assertEqual(self.check(FIBONACCI, FIBONACCI), 2)
        self.assertEqual(self.check(FIBONACCI, LINE), 4)
        self.assertEqual(self.check(FIBONACCI, -FIBONACCI), 2)
        self.assertEqual(self.check(FIBONACCI, Operator([Poly([0, 1]), Poly([2])]) * FIBONACCI), 3)
        self.assertEqual(self.check(Operator([Poly([0, 1])]), FIBONACCI), 2)
        self.assertEqual(self.check(Operator([Poly([3, 1])]), Operator([Poly([0, 1])])), 0)
        self.assertEqual(self.check(Operator.shift(2), Operator.shift(5)), 5)
        source = random.Random(2)
        for _ in range(20):
            shared = random_operator(source, 2)
            first, second = random_operator(source, 1) * shared, random_operator(source, 2) * shared
            self.assertLessEqual(self.check(first, second), 5)

    def test_zero(self):
        for first, second in [(ZERO, FIBONACCI), (FIBONACCI, ZERO), (ZERO, ZERO)]:
            with self.assertRaises(InvalidRow):
                common_multiple(first, second)

    def test_bounds(self):
        huge = 10 ** 400 - 1
        source = random.Random(3)
        self.check(random_operator(source, 1, 40, huge), random_operator(source, 1, 40, huge))
        self.check(random_operator(source, 3, 3, 10 ** 30), random_operator(source, 2, 4, 10 ** 30))
        self.check(random_operator(source, 6, 3), random_operator(source, 6, 3))

    def test_equal_answers(self):
        source = random.Random(4)
        first, second = random_operator(source, 2), random_operator(source, 3)
        kept = first.coefs, second.coefs
        self.assertEqual(common_multiple(first, second), common_multiple(first, second))
        self.assertEqual((first.coefs, second.coefs), kept)


class CompareTest(unittest.TestCase):
    def check(self, first, second):
        found = compare_rows(first, second)
        self.assertIs(type(found), tuple)
        self.assertTrue(accepts_rows(first, second, found))
        if found[0] == "equal":
            self.assertEqual(len(found), 3)
            multiple = found[1] * first.operator
            self.assertEqual(multiple, found[2] * second.operator)
            self.assertFalse(multiple.is_zero)
            count = max(first.since, second.since, free_from(multiple.lead, start=0)) + multiple.order
            self.assertEqual(first.prefix(count + 5), second.prefix(count + 5))
        else:
            self.assertEqual(found[0], "different")
            self.assertEqual(first.prefix(found[1]), second.prefix(found[1]))
            self.assertNotEqual(first.value(found[1]), second.value(found[1]))
        return found

    def check_equal(self, first, second):
        self.assertEqual(self.check(first, second)[0], "equal")
        self.assertEqual(self.check(second, first)[0], "equal")

    def check_different(self, first, second, index):
        self.assertEqual(self.check(first, second), ("different", index))
        self.assertEqual(self.check(second, first), ("different", index))

    def test_example(self):
        first = Row(FIBONACCI, fractions([0, 1]))
        second = Row(LINE, fractions([0, 1]))
        self.assertEqual(compare_rows(first, second), ("different", 2))

    def test_equal(self):
        fibonacci = Row(FIBONACCI, fractions([0, 1]))
        self.check_equal(fibonacci, fibonacci)
        self.check_equal(fibonacci, Row(FIBONACCI, fractions([0, 1, 1, 2])))
        self.check_equal(fibonacci, Row(-FIBONACCI, fractions([0, 1])))
        self.check_equal(fibonacci, Row(LINE * FIBONACCI, fractions([0, 1, 1, 2])))
        # The numbers n are a solution of both.
        self.check_equal(Row(LINE, fractions([0, 1])), Row(Operator([Poly([-1, -1]), Poly([0, 1])]), fractions([0, 1])))

    def test_different(self):
        fibonacci = Row(FIBONACCI, fractions([0, 1]))
        self.check_different(fibonacci, Row(FIBONACCI, fractions([1, 1])), 0)
        self.check_different(fibonacci, Row(FIBONACCI, fractions([0, 2])), 1)
        self.check_different(fibonacci, scale_row(fibonacci, Fraction(2)), 1)
        self.check_different(fibonacci, Row(FIBONACCI, fractions([0, 1, 1, 2, 4])), 4)

    def test_different_far_out(self):
        # The leading coefficient leaves one value open.
        for root in [20, 500, 2997]:
            operator = Operator([Poly([-1]), Poly([-root, 1])]) * Operator([Poly([-1]), Poly([1])])
            count = needed(operator)
            ones = fractions([1] * count)
            constant = Row(Operator([Poly([-1]), Poly([1])]), fractions([1]))
            changed = ones[:count - 1] + [Fraction(2)]
            self.check_equal(Row(operator, ones), constant)
            self.check_different(Row(operator, changed), constant, count - 1)
            self.check_different(Row(operator, changed), Row(operator, ones), count - 1)

    def test_values_that_the_common_multiple_leaves_open(self):
        # Both rows have few first values, but their multiple has a leading coefficient with a root.
        first = Row(Operator([Poly([-1]), Poly([1])]), fractions([3]))
        second = Row(Operator([Poly([0, -1]), Poly([0, 1])]), fractions([3, 3]))
        self.check_equal(first, second)
        self.check_different(first, Row(second.operator, fractions([3, 4])), 1)

    def test_order_0(self):
        zero = Row(Operator([Poly([1])]), [])
        self.check_equal(zero, zero)
        self.check_equal(zero, Row(Operator([Poly([-7, 1])]), fractions([0] * 8)))
        self.check_equal(zero, Row(FIBONACCI, fractions([0, 0])))
        self.check_different(zero, Row(Operator([Poly([-7, 1])]), fractions([0] * 7 + [1])), 7)
        self.check_different(zero, Row(Operator([Poly([-70, 1])]), fractions([0] * 70 + [1])), 70)
        self.check_different(zero, Row(FIBONACCI, fractions([0, 1])), 1)

    def test_identities(self):
        # The sums of the squares of Fibonacci's numbers are F(n - 1) F(n).
        fibonacci = Row(FIBONACCI, fractions([0, 1]))
        before = Row(FIBONACCI, fractions([1, 0]))
        self.check_equal(partial_sums(multiply_rows(fibonacci, fibonacci)), multiply_rows(before, fibonacci))
        # The sums of k k! are n! - 1.
        factorials = row_of_term(factorial_term(0, 0))
        numbers = Row(LINE, fractions([0, 1]))
        minus = row_of_term(power_term(Fraction(1), 0).scaled(Fraction(-1)))
        self.check_equal(partial_sums(multiply_rows(numbers, factorials)), add_rows(factorials, minus))

    def test_random(self):
        source = random.Random(5)
        for order in range(3):
            for other in range(3):
                for _ in range(5):
                    first, second = [Row(operator, fractions([source.randint(-3, 3) for _ in range(needed(operator))]))
                                     for operator in (random_operator(source, order), random_operator(source, other))]
                    self.check(first, second)
                    self.check_equal(add_rows(first, second), add_rows(second, first))


class CompareSumsTest(unittest.TestCase):
    def check(self, first, second):
        found = compare_sums(first, second)
        self.assertTrue(accepts_rows(row_of_sum(first), row_of_sum(second), found))
        self.assertEqual(found, compare_rows(row_of_sum(first), row_of_sum(second)))
        return found

    def test_identities(self):
        n, k = Poly2.line(1, 0, 0), Poly2.line(0, 1, 0)
        two = Poly2([Poly([2])])
        # Delannoy's numbers, and means over the symmetry of k and n - k.
        self.assertEqual(self.check(binomial_sum(choose=1, rise=1), binomial_sum(base=2, choose=2))[0], "equal")
        for choose in range(1, 4):
            self.assertEqual(self.check(binomial_sum(two * k, choose=choose), binomial_sum(n, choose=choose))[0], "equal")
        s = binomial_sum(choose=2, rise=2)
        self.assertEqual(self.check(s, s)[0], "equal")

    def test_sums_that_are_zero(self):
        n = Poly2.line(1, 0, 0)
        self.assertEqual(self.check(binomial_sum(n, -1), binomial_sum(n * n, -1))[0], "equal")
        self.assertEqual(self.check(binomial_sum(base=-1), binomial_sum(n, -1)), ("different", 0))

    def test_different(self):
        n = Poly2.line(1, 0, 0)
        self.assertEqual(self.check(binomial_sum(), binomial_sum(choose=2)), ("different", 2))
        self.assertEqual(self.check(binomial_sum(n), binomial_sum(n * n)), ("different", 2))
        self.assertEqual(self.check(binomial_sum(base=2), binomial_sum()), ("different", 1))
        self.assertEqual(self.check(binomial_sum(n + ONE), binomial_sum(n)), ("different", 0))

    def test_different_far_out(self):
        # The sums of k (k - 1) (k - 2) (-1) ** k binomial(n, k) are 0 unless n = 3, those of n (-1) ** k .. always.
        falling = Poly2.line(0, 1, 0) * Poly2.line(0, 1, -1) * Poly2.line(0, 1, -2)
        zero = binomial_sum(Poly2.line(1, 0, 0), -1)
        self.assertEqual(self.check(binomial_sum(falling, -1), zero), ("different", 3))
        # A weight without whole roots below the difference: n - 40 against n - 40 with another sum of powers.
        n = Poly2.line(1, 0, -40)
        self.assertEqual(self.check(binomial_sum(n * Poly2.line(0, 2, 0)), binomial_sum(n * Poly2.line(1, 0, 0)))[0],
                         "equal")


if __name__ == "__main__":
    unittest.main()
