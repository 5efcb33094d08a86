"""certsums.row: promise [36], and [2] to [4] for it."""

import random
import unittest

from certsums.errors import InvalidRow
from certsums.fraction import Fraction
from certsums.operator import Operator
from certsums.poly import Poly
from certsums.row import Row, needed

FIBONACCI = Operator([Poly([-1]), Poly([-1]), Poly([1])])


def fractions(numbers):
    return [Fraction(x) for x in numbers]


def numbers(values):
    return [x.num for x in values]


def with_roots(roots):
    found = Poly([1])
    for root in roots:
        found = found * Poly([-root, 1])
    return found


def random_row(source, order=3, spare=4):
    coefs = [Poly([source.randint(-4, 4) for _ in range(3)], source.randint(1, 3)) for _ in range(order)]
    lead = with_roots([source.randint(-3, 3) for _ in range(source.randint(0, 2))]).scaled(Fraction(source.choice([-2, 1, 3])))
    operator = Operator(coefs + [lead])
    count = needed(operator) + source.randint(0, spare)
    return Row(operator, [Fraction(source.randint(-5, 5), source.randint(1, 4)) for _ in range(count)])


def values_by_definition(row, count):
    """The values, each one as the only number that the operator maps to zero with the ones before it."""
    values = list(row.initial)
    operator = row.operator
    while len(values) < count:
        n = len(values) - operator.order
        total = Fraction(0)
        for j in range(operator.order):
            total = total + operator.coefs[j].at(n) * values[n + j]
        values.append(-total.over(operator.lead.at(n)))
    return values[:count]


class NeededTest(unittest.TestCase):
    def test_without_roots(self):
        self.assertEqual(needed(FIBONACCI), 2)
        self.assertEqual(needed(Operator([Poly([5])])), 0)
        self.assertEqual(needed(Operator([Poly([1]), Poly([1, 0, 1])])), 1)
        self.assertEqual(needed(Operator.shift(6)), 6)

    def test_with_roots(self):
        one = Poly([1])
        self.assertEqual(needed(Operator([one, Poly([0, 1])])), 2)
        self.assertEqual(needed(Operator([one, Poly([1, 1])])), 1)
        self.assertEqual(needed(Operator([one, Poly([-1, 2])])), 1)
        self.assertEqual(needed(Operator([one, one, with_roots([3, 7, -2, 7])])), 10)
        self.assertEqual(needed(Operator([with_roots([4])])), 5)
        self.assertEqual(needed(Operator([one, with_roots([2999])])), 3001)

    def test_roots_of_other_coefficients(self):
        self.assertEqual(needed(Operator([with_roots([9]), Poly([1])])), 1)

    def test_zero(self):
        for operator in [Operator([]), Operator([Poly([]), Poly([])])]:
            with self.assertRaises(InvalidRow):
                needed(operator)


class RefusalTest(unittest.TestCase):
    def test_zero_operator(self):
        for initial in [[], fractions([1, 2, 3])]:
            with self.assertRaises(InvalidRow):
                Row(Operator([]), initial)

    def test_number_of_first_values(self):
        one = Poly([1])
        for operator in [FIBONACCI, Operator([one, with_roots([4])]), Operator([one, one, Poly([0, 1])]),
                         Operator([with_roots([2])]), Operator([one, with_roots([60])])]:
            count = needed(operator)
            row = Row(operator, fractions(range(count)))
            self.assertEqual(row.since, count - operator.order)
            self.assertEqual(Row(operator, fractions(range(count + 1))).since, count + 1 - operator.order)
            with self.assertRaises(InvalidRow):
                Row(operator, fractions(range(count - 1)))
            with self.assertRaises(InvalidRow):
                Row(operator, [])

    def test_order_0(self):
        row = Row(Operator([Poly([3])]), [])
        self.assertEqual((row.since, row.initial, row.value(0), row.prefix(2)), (0, (), Fraction(0), fractions([0, 0])))


class FieldsTest(unittest.TestCase):
    def test_fields(self):
        row = Row(FIBONACCI, fractions([2, 1, 3]))
        self.assertEqual(row.operator, FIBONACCI)
        self.assertEqual(row.initial, tuple(fractions([2, 1, 3])))
        self.assertIs(type(row.initial), tuple)
        self.assertEqual(row.since, 1)

    def test_lists_are_copied(self):
        initial = fractions([0, 1])
        row = Row(FIBONACCI, initial)
        initial[0] = Fraction(7)
        initial.append(Fraction(7))
        self.assertEqual(row.prefix(4), fractions([0, 1, 1, 2]))
        self.assertEqual(row.initial, tuple(fractions([0, 1])))
        found = row.prefix(3)
        found[0] = Fraction(9)
        found.clear()
        self.assertEqual(row.prefix(3), fractions([0, 1, 1]))

    def test_tuples(self):
        self.assertEqual(Row(FIBONACCI, tuple(fractions([0, 1]))), Row(FIBONACCI, fractions([0, 1])))

    def test_equality(self):
        row = Row(FIBONACCI, fractions([0, 1]))
        self.assertEqual(row, Row(Operator([Poly([-1]), Poly([-1]), Poly([1]), Poly([])]), fractions([0, 1])))
        # The same values are given by other first values and by other operators.
        self.assertNotEqual(row, Row(FIBONACCI, fractions([0, 1, 1])))
        self.assertNotEqual(row, Row(-FIBONACCI, fractions([0, 1])))
        self.assertNotEqual(row, Row(FIBONACCI, fractions([0, 2])))
        for other in [None, 0, "", (FIBONACCI, row.initial), FIBONACCI, Fraction(0)]:
            self.assertFalse(row == other)


class ValuesTest(unittest.TestCase):
    def check(self, row, count=20):
        expected = values_by_definition(row, count)
        self.assertEqual(row.prefix(count), expected)
        self.assertEqual([row.value(n) for n in range(count)], expected)
        for n in range(row.since, count - row.operator.order):
            self.assertEqual(row.operator.apply_at(expected, n), Fraction(0))

    def test_fibonacci(self):
        row = Row(FIBONACCI, fractions([0, 1]))
        self.assertEqual(numbers(row.prefix(11)), [0, 1, 1, 2, 3, 5, 8, 13, 21, 34, 55])
        self.assertEqual(row.value(10), Fraction(55))

    def test_prefixes(self):
        row = Row(FIBONACCI, fractions([5, 6, 7]))
        for count in range(7):
            self.assertEqual(numbers(row.prefix(count)), [5, 6, 7, 13, 20, 33, 53][:count])

    def test_first_values_may_break_the_recurrence(self):
        row = Row(FIBONACCI, fractions([9, 9, 0, 1]))
        self.assertEqual(numbers(row.prefix(8)), [9, 9, 0, 1, 1, 2, 3, 5])
        self.check(row)

    def test_order_0(self):
        row = Row(Operator([Poly([-4, 1])]), fractions([1, 2, 3, 4, 5]))
        self.assertEqual(numbers(row.prefix(8)), [1, 2, 3, 4, 5, 0, 0, 0])
        self.assertEqual([row.value(4), row.value(5), row.value(2999)], fractions([5, 0, 0]))

    def test_roots_of_the_leading_coefficient(self):
        # (n - 2) u(n + 1) = u(n) says nothing of u(3), and that u(2) is 0.
        row = Row(Operator([Poly([-1]), with_roots([2])]), fractions([1, 2, 3, 4]))
        self.assertEqual(row.since, 3)
        self.assertEqual(row.prefix(7), [Fraction(1), Fraction(2), Fraction(3), Fraction(4), Fraction(4),
                                         Fraction(2), Fraction(2, 3)])
        self.check(row)

    def test_shifts(self):
        row = Row(Operator.shift(3), fractions([1, 2, 3]))
        self.assertEqual(numbers(row.prefix(6)), [1, 2, 3, 0, 0, 0])
        self.check(Row(Operator.shift(2) * Operator([Poly([0, 1])]), fractions([1, 2, 3, 4])))

    def test_random(self):
        source = random.Random(1)
        for order in [0, 1, 2, 3, 6]:
            for _ in range(30):
                self.check(random_row(source, order))

    def test_denominators(self):
        # The sums of 1 / (k + 1): (n + 2) u(n + 2) = (2 n + 3) u(n + 1) - (n + 1) u(n).
        row = Row(Operator([Poly([1, 1]), Poly([-3, -2]), Poly([2, 1])]), fractions([0, 1]))
        total = Fraction(0)
        expected = [total]
        for k in range(1, 400):
            total = total + Fraction(1, k)
            expected.append(total)
        self.assertEqual(row.prefix(400), expected)
        self.assertEqual(row.value(399), total)
        # n! / 3 ** n, and its reciprocal.
        row = Row(Operator([Poly([-1, -1]), Poly([3])]), fractions([1]))
        other = Row(Operator([Poly([-3]), Poly([1, 1])]), fractions([1]))
        self.assertEqual([x * y for x, y in zip(row.prefix(900), other.prefix(900))], fractions([1] * 900))

    def test_negative_numbers(self):
        row = Row(Operator([Poly([1]), Poly([0, -2], 3)]), [Fraction(1), Fraction(-5, 7)])
        self.check(row)
        for x in row.prefix(30):
            self.assertGreater(x.den, 0)

    def test_greatest_indexes(self):
        row = Row(Operator([Poly([-2]), Poly([1])]), fractions([1]))
        self.assertEqual(row.value(2999), Fraction(2 ** 2999))
        row = Row(Operator([Poly([-1]), with_roots([2998])]), fractions(range(3000)))
        self.assertEqual(row.value(2999), Fraction(2999))
        self.assertEqual(row.prefix(3002)[2998:], fractions([2998, 2999, 2999]) + [Fraction(2999, 2)])

    def test_large_numbers(self):
        huge = 10 ** 400 - 1
        row = Row(Operator([Poly([huge] * 41), Poly([1] * 40 + [huge])]), [Fraction(huge, huge - 2)])
        self.assertEqual(row.value(2), values_by_definition(row, 3)[2])


if __name__ == "__main__":
    unittest.main()
