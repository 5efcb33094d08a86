"""certsums.checker: promises [40] to [42], and [26], [30] for what it accepts."""

import random
import unittest

from certsums.binomialsum import BinomialSum
from certsums.checker import accepts_recurrence, accepts_rows, accepts_running
from certsums.compare import compare_rows
from certsums.definite import least_recurrence, recurrence
from certsums.distance import coprime_certificate
from certsums.errors import ZeroPolynomial
from certsums.fraction import Fraction
from certsums.normalform import normal_form
from certsums.operator import Operator
from certsums.poly import Poly
from certsums.poly2 import Poly2
from certsums.quotient import Quotient
from certsums.row import Row
from certsums.running import running_sum
from certsums.systems import kernel
from certsums.telescoping import equations

P0, P1, K = Poly([]), Poly([1]), Poly([0, 1])
ZERO2, ONE2 = Poly2([]), Poly2([P1])
NO_OPERATOR = Operator([])
FIBONACCI = Operator([Poly([-1]), Poly([-1]), P1])
LINE = Operator([P1, Poly([-2]), P1])


def fractions(numbers):
    return [Fraction(x) for x in numbers]


def replaced(certificate, index, part):
    return certificate[:index] + (part,) + certificate[index + 1:]


def binomial_sum(weight=ONE2, base=1, choose=1, rise=0, central=0):
    return BinomialSum(weight, Fraction(base), choose=choose, rise=rise, central=central)


def with_roots(roots):
    found = P1
    for root in roots:
        found = found * Poly([-root, 1])
    return found


RATIO = Quotient(K, Poly([1, 1]))
CLOSED = ("closed", Quotient.whole(K))
OPEN = running_sum(RATIO)
SQUARES = binomial_sum(choose=2)
RECURRENCE = recurrence(SQUARES, order=1)
NONE = recurrence(SQUARES, order=0)
NUMBERS = Row(FIBONACCI, fractions([0, 1]))
EQUAL = compare_rows(NUMBERS, NUMBERS)
DIFFERENT = ("different", 2)
ALL = [CLOSED, OPEN, RECURRENCE, NONE, EQUAL, DIFFERENT]


class CheckerTest(unittest.TestCase):
    def says(self, found, expected):
        self.assertIs(found, expected)


class OtherQuestionTest(CheckerTest):
    def test_forms(self):
        for certificate in ALL:
            kind = certificate[0]
            if kind not in ("closed", "open"):
                self.says(accepts_running(RATIO, certificate), False)
            if kind not in ("recurrence", "none"):
                self.says(accepts_recurrence(SQUARES, certificate), False)
            if kind not in ("equal", "different"):
                self.says(accepts_rows(NUMBERS, NUMBERS, certificate), False)

    def test_zero_ratio(self):
        zero = Quotient(P0, P1)
        for certificate in ALL + [("closed", zero), ("open", P0, P0, P0, ZERO2, ZERO2, P0, ()), ("different", -1)]:
            with self.assertRaises(ZeroPolynomial):
                accepts_running(zero, certificate)


class ClosedTest(CheckerTest):
    def test_closed_forms(self):
        one = Quotient(P1, P1)
        for constant in [-3, 0, 1]:
            self.says(accepts_running(one, ("closed", Quotient.whole(Poly([constant, 1])))), True)
        self.says(accepts_running(one, ("closed", Quotient.whole(Poly([0, 2])))), False)
        self.says(accepts_running(one, ("closed", one)), False)
        # k k! has the ratio (k + 1) ** 2 / k and the closed form 1 / k.
        ratio = Quotient(Poly([1, 2, 1]), K)
        self.says(accepts_running(ratio, ("closed", Quotient(P1, K))), True)
        self.says(accepts_running(ratio, ("closed", Quotient(P1, Poly([1, 1])))), False)

    def test_zero(self):
        self.says(accepts_running(RATIO, ("closed", Quotient(P0, P1))), False)

    def test_random(self):
        source = random.Random(1)
        accepted = 0
        for _ in range(200):
            num, den = [with_roots([source.randint(-3, 3) for _ in range(source.randint(0, 2))]) for _ in range(2)]
            y = Quotient(num.scaled(Fraction(source.choice([-1, 2, 3]))), den)
            top = y + Quotient(P1, P1)
            if top.is_zero:
                continue
            ratio = top.over(y.shifted(1))
            self.says(accepts_running(ratio, ("closed", y)), True)
            for other in [-y, y.shifted(1), y + Quotient(P1, Poly([5, 1])), y + Quotient(P1, P1)]:
                expected = ratio * other.shifted(1) - other == Quotient(P1, P1)
                self.says(accepts_running(ratio, ("closed", other)), expected)
                accepted += expected
        self.assertGreater(accepted, 0)


class OpenTest(CheckerTest):
    def refuse(self, ratio, certificate, index, part):
        self.says(accepts_running(ratio, replaced(certificate, index, part)), False)

    def test_accepted(self):
        ratios = [RATIO, Quotient(K * K, Poly([1, 2, 1])), Quotient.whole(Poly([1, 1])), Quotient(P1, Poly([1, 1])),
                  Quotient(Poly([0, 2]), Poly([1, 1])), Quotient(with_roots([-100]) * Poly([5, 2, 1]), K * K * K)]
        for ratio in ratios:
            certificate = running_sum(ratio)
            self.assertEqual(certificate[0], "open")
            self.says(accepts_running(ratio, certificate), True)
            for other in ratios:
                if other != ratio:
                    self.says(accepts_running(other, certificate), False)

    def test_zero_parts(self):
        for index in [1, 2, 3, 6]:
            self.refuse(RATIO, OPEN, index, P0)
        for index in [4, 5]:
            if not OPEN[index].is_zero:
                self.refuse(RATIO, OPEN, index, ZERO2)
        self.refuse(RATIO, OPEN, 7, ())
        self.refuse(RATIO, OPEN, 7, tuple(fractions([0] * 9)))
        self.says(accepts_running(RATIO, ("open", P0, P0, P0, ZERO2, ZERO2, P0, ())), False)

    def test_changed_parts(self):
        for ratio in [RATIO, Quotient(Poly([0, 2]), Poly([1, 1])), Quotient(K * K, Poly([1, 2, 1]))]:
            certificate = running_sum(ratio)
            for index in [1, 2, 3, 6]:
                for part in [certificate[index] + P1, certificate[index] * K, certificate[index].scaled(Fraction(2))]:
                    # A multiple of c, together with the same f, is a certificate, too.
                    if not (index == 3 and part == certificate[3].scaled(Fraction(2))):
                        self.refuse(ratio, certificate, index, part)
            for index in [4, 5]:
                self.refuse(ratio, certificate, index, certificate[index] + ONE2)
                self.refuse(ratio, certificate, index, certificate[index] + Poly2.line(1, 0, 0))
            self.says(accepts_running(ratio, replaced(certificate, 3, certificate[3].scaled(Fraction(2)))), True)

    def test_multiples_of_u_v_and_w(self):
        _, a, b, c, u, v, w, f = OPEN

        def scaled(p):
            q = Poly2.in_n(p)
            return "open", a, b, c, u * q, v * q, w * p, f

        self.says(accepts_running(RATIO, scaled(Poly([5, 1]))), True)
        self.says(accepts_running(RATIO, scaled(Poly([1, -2]))), True)
        # A whole root of w that is not negative leaves a distance possible.
        for root in [0, 1, 77, 10 ** 8]:
            self.says(accepts_running(RATIO, scaled(Poly([-root, 1]))), False)
        self.says(accepts_running(RATIO, scaled(P0)), False)

    def test_lengths_of_f(self):
        f = OPEN[7]
        self.says(accepts_running(RATIO, replaced(OPEN, 7, f + tuple(fractions([3, -4])))), True)
        for factor in [Fraction(-1), Fraction(10 ** 300, 7)]:
            self.says(accepts_running(RATIO, replaced(OPEN, 7, tuple([x * factor for x in f]))), True)
        for i in range(len(f)):
            changed = f[:i] + (f[i] + Fraction(1, 3),) + f[i + 1:]
            expected = self.refutes(OPEN[1], OPEN[2], OPEN[3], changed)
            self.says(accepts_running(RATIO, replaced(OPEN, 7, changed)), expected)

    def refutes(self, a, b, c, f):
        def number(p):
            total = Fraction(0)
            for e, x in enumerate(f):
                total = total + x * p.coefficient(e)
            return total

        zeros = [number(a * Poly([1, 1]).power(i) - b.shifted(-1) * K.power(i)) for i in range(self.bound(a, b, c) + 1)]
        return not number(c).is_zero and all(x.is_zero for x in zeros)

    def bound(self, a, b, c):
        p, s = a - b.shifted(-1), a + b.shifted(-1)
        if p.degree >= s.degree:
            return max(-1, c.degree - p.degree)
        results = [c.degree - s.degree + 1]
        other = Fraction(-2) * p.coefficient(s.degree - 1).over(s.lead)
        return max([-1] + results + ([other.num] if other.is_whole else []))

    def test_every_power_up_to_the_bound_counts(self):
        # For the ratio with the greatest degree bound, an f that is right but for the last power is refused.
        ratio = Quotient(Poly([-9, 1]) * Poly([5, 2, 1]), Poly([1, 1]) * Poly([5, 2, 1]).shifted(1))
        certificate = running_sum(ratio)
        kind, a, b, c, u, v, w, f = certificate
        self.assertEqual(kind, "open")
        self.says(accepts_running(ratio, certificate), True)
        for i in range(len(f)):
            for change in [Fraction(1), Fraction(-1, 2)]:
                changed = f[:i] + (f[i] + change,) + f[i + 1:]
                self.says(accepts_running(ratio, replaced(certificate, 7, changed)), self.refutes(a, b, c, changed))

    def test_closed_ratios_have_none(self):
        # The right a, b, c, u, v and w with any f: the number of c cannot be right.
        source = random.Random(2)
        ratio = Quotient(Poly([1, 2, 1]), K)
        a, b, c = normal_form(ratio)
        u, v, w = coprime_certificate(a, b)
        for _ in range(100):
            f = tuple([Fraction(source.randint(-2, 2)) for _ in range(source.randint(0, 4))])
            self.says(accepts_running(ratio, ("open", a, b, c, u, v, w, f)), False)

    def test_polynomials_with_a_distance(self):
        # For the ratio (k + 2) / k, a = k + 2 and b = k have the distance 2, so w cannot be right.
        ratio = Quotient(Poly([2, 1]), K)
        for w in [P1, Poly([-2, 1]), Poly([2, -1])]:
            for u, v in [(ONE2, -ONE2), (-ONE2, ONE2)]:
                for f in [fractions([1]), fractions([0, 1]), fractions([1, 0, 0, 1])]:
                    self.says(accepts_running(ratio, ("open", Poly([2, 1]), K, P1, u, v, w, tuple(f))), False)


class RecurrenceTest(CheckerTest):
    def test_accepted(self):
        for s in [binomial_sum(), SQUARES, binomial_sum(choose=1, rise=1), binomial_sum(base=-1),
                  binomial_sum(Poly2.line(1, 2, 3), 3, 2, 0, 1), binomial_sum(choose=2, rise=2)]:
            for certificate in least_recurrence(s) + [recurrence(s, order=4)]:
                self.says(accepts_recurrence(s, certificate), True)

    def test_other_sums(self):
        self.says(accepts_recurrence(binomial_sum(choose=3), RECURRENCE), False)
        self.says(accepts_recurrence(binomial_sum(base=2, choose=2), RECURRENCE), False)
        # The matrix of order 0 is the same for all sums with this weight and no unknown in m.
        self.says(accepts_recurrence(binomial_sum(choose=3), NONE), True)
        self.says(accepts_recurrence(binomial_sum(Poly2([Poly([2])]), choose=2), NONE), False)

    def test_multiples(self):
        kind, order, operator, m = RECURRENCE
        for p in [Poly([-3]), Poly([-5, 1]), Poly([1, 0, 7])]:
            self.says(accepts_recurrence(SQUARES, (kind, order, Operator([p]) * operator, Poly2.in_n(p) * m)), True)
            self.says(accepts_recurrence(SQUARES, (kind, order, Operator([p]) * operator, m)), False)

    def test_zero_parts(self):
        kind, order, operator, m = RECURRENCE
        self.says(accepts_recurrence(SQUARES, (kind, order, NO_OPERATOR, ZERO2)), False)
        self.says(accepts_recurrence(SQUARES, (kind, order, NO_OPERATOR, m)), False)
        self.says(accepts_recurrence(SQUARES, (kind, order, operator, ZERO2)), False)
        # The sums of (-1) ** k binomial(n, k) have a telescoper of order 0, for which m is needed.
        alternating = binomial_sum(base=-1)
        kind, order, operator, m = recurrence(alternating, order=0)
        self.says(accepts_recurrence(alternating, (kind, 0, operator, m)), True)
        self.says(accepts_recurrence(alternating, (kind, 0, operator, ZERO2)), False)

    def test_orders(self):
        kind, order, operator, m = RECURRENCE
        for other in [-5, -1, 0, 2, 3]:
            self.says(accepts_recurrence(SQUARES, (kind, other, operator, m)), False)
        self.says(accepts_recurrence(SQUARES, (kind, 1, Operator.shift(1) * operator, m)), False)
        self.says(accepts_recurrence(SQUARES, (kind, -1, NO_OPERATOR, ZERO2)), False)
        self.says(accepts_recurrence(SQUARES, ("none", -1, 0, ())), False)
        self.says(accepts_recurrence(SQUARES, ("none", -10 ** 300, 0, ())), False)

    def test_orders_that_are_much_too_large(self):
        kind, order, operator, m = RECURRENCE
        for other in [7, 100, 2999, 10 ** 300]:
            for certificate in [(kind, other, operator, m), (kind, other, operator, ZERO2), (kind, other, NO_OPERATOR, m),
                                (kind, other, Operator([P1]), m), ("none", other, 0, NONE[3]), ("none", other, 0, ())]:
                self.says(accepts_recurrence(SQUARES, certificate), False)

    def test_an_operator_of_greater_order(self):
        # What point 29 says would hold here for the column 1 of order 0, but there is none.
        s = binomial_sum()
        self.says(accepts_recurrence(s, ("recurrence", 0, Operator([Poly([-1, -1]), P1]), ZERO2)), False)

    def test_an_operator_of_smaller_order(self):
        # A telescoper of order 1 is one of order 2 after it is multiplied by what the columns have in common.
        kind, order, operator, m = RECURRENCE
        factor = Poly2.line(1, -1, 2).power(2)
        self.assertEqual(operator.order, 1)
        self.says(accepts_recurrence(SQUARES, (kind, 2, operator, factor * m)), True)
        for order in [3, 4]:
            factor = factor * Poly2.line(1, -1, order).power(2)
            self.says(accepts_recurrence(SQUARES, (kind, order, operator, factor * m)), True)
        # Where there is a rising factor, what depends on n alone is common, too.
        s = binomial_sum(choose=1, rise=1, base=-1)
        kind, order, operator, m = least_recurrence(s)[-1]
        self.assertEqual(order, 1)
        factor = Poly2.line(1, -1, 2) * Poly2.line(1, 0, 2)
        self.says(accepts_recurrence(s, (kind, 2, operator, factor * m)), True)
        self.says(accepts_recurrence(s, (kind, 2, operator, Poly2.line(1, -1, 2) * m)), False)

    def test_changed_parts(self):
        for s in [SQUARES, binomial_sum(choose=1, rise=1), binomial_sum(choose=2, rise=0, central=1)]:
            kind, order, operator, m = least_recurrence(s)[-1]
            for change in [Operator([P1]), Operator([P0, K]), Operator.shift(order)]:
                self.says(accepts_recurrence(s, (kind, order, operator + change, m)), False)
            for change in [ONE2, Poly2.line(1, 0, 0), Poly2.line(0, 1, 0)]:
                self.says(accepts_recurrence(s, (kind, order, operator, m + change)), False)


class NoneTest(CheckerTest):
    def inverse_at(self, s, order, n):
        """An inverse of the matrix with n inserted, or None."""
        rows, width = equations(s, order)
        kind, inverse = kernel([[p.at(n) for p in row] for row in rows], width)
        return tuple(tuple(row) for row in inverse) if kind == "inverse" else None

    def test_accepted_at_other_numbers(self):
        # A number below 0 is not what recurrence returns, but it is accepted.
        for s, order in [(SQUARES, 0), (binomial_sum(choose=3), 1), (binomial_sum(choose=4), 1)]:
            for n in [-7, -1, 0, 1, 5, 100]:
                inverse = self.inverse_at(s, order, n)
                if inverse is not None:
                    self.says(accepts_recurrence(s, ("none", order, n, inverse)), True)
        self.assertIsNotNone(self.inverse_at(SQUARES, 0, -7))

    def test_other_numbers(self):
        s = binomial_sum(choose=3)
        kind, order, n, inverse = recurrence(s, order=1)
        self.says(accepts_recurrence(s, (kind, order, n, inverse)), True)
        for other in [n - 1, n + 1, n + 10, -50]:
            self.says(accepts_recurrence(s, (kind, order, other, inverse)), False)

    def test_wrong_sizes(self):
        s = binomial_sum(choose=3)
        kind, order, n, inverse = recurrence(s, order=1)
        rows, width = equations(s, order)
        self.assertEqual((len(inverse), {len(row) for row in inverse}), (width, {len(rows)}))
        zero = Fraction(0)
        for wrong in [(), ((),), inverse[:-1], inverse + (inverse[0],), inverse + ((),), tuple(() for _ in inverse),
                      tuple(row + (zero,) for row in inverse), tuple(row[:-1] for row in inverse),
                      inverse[:-1] + (inverse[-1] + (zero,),), inverse[:-1] + (inverse[-1][:-1],),
                      ((zero,) * len(rows),) * width]:
            self.says(accepts_recurrence(s, (kind, order, n, wrong)), False)

    def test_changed_entries(self):
        s = binomial_sum(choose=3)
        kind, order, n, inverse = recurrence(s, order=1)
        rows, width = equations(s, order)
        for i in range(width):
            for e in range(len(rows)):
                row = inverse[i][:e] + (inverse[i][e] + Fraction(1, 2),) + inverse[i][e + 1:]
                changed = inverse[:i] + (row,) + inverse[i + 1:]
                # The change counts unless the row of the matrix is zero at n.
                expected = all(p.at(n).is_zero for p in rows[e])
                self.says(accepts_recurrence(s, (kind, order, n, changed)), expected)

    def test_orders(self):
        s = binomial_sum(choose=3)
        kind, order, n, inverse = recurrence(s, order=1)
        for other in [-1, 0, 2, 3]:
            self.says(accepts_recurrence(s, (kind, other, n, inverse)), False)

    def test_orders_with_a_telescoper(self):
        for n in range(5):
            for inverse in [((Fraction(1),),), (tuple(fractions([1, 0])), tuple(fractions([0, 1])))]:
                self.says(accepts_recurrence(SQUARES, ("none", 1, n, inverse)), False)


class DifferentTest(CheckerTest):
    def test_indexes(self):
        first = Row(LINE, fractions([0, 1]))
        for index in range(-3, 9):
            self.says(accepts_rows(NUMBERS, first, ("different", index)), index == 2)
            self.says(accepts_rows(first, NUMBERS, ("different", index)), index == 2)
            self.says(accepts_rows(first, first, ("different", index)), False)

    def test_index_0(self):
        other = Row(FIBONACCI, fractions([1, 1]))
        self.says(accepts_rows(NUMBERS, other, ("different", 0)), True)
        self.says(accepts_rows(NUMBERS, other, ("different", 1)), False)

    def test_far_out(self):
        zero = Row(Operator([P1]), [])
        late = Row(Operator([Poly([-2990, 1])]), fractions([0] * 2990 + [1]))
        for index in [0, 2989, 2991, 2999]:
            self.says(accepts_rows(zero, late, ("different", index)), False)
        self.says(accepts_rows(zero, late, ("different", 2990)), True)

    def test_beyond_all_bounds(self):
        self.says(accepts_rows(NUMBERS, NUMBERS, ("different", 10 ** 300)), False)
        self.says(accepts_rows(NUMBERS, NUMBERS, ("different", -10 ** 300)), False)
        zero = Row(Operator([P1]), [])
        late = Row(Operator([Poly([-10500, 1])]), fractions([0] * 10500 + [1]))
        for index in [10499, 10501, 10 ** 50]:
            self.says(accepts_rows(zero, late, ("different", index)), False)
        self.says(accepts_rows(zero, late, ("different", 10500)), True)


class EqualTest(CheckerTest):
    def test_accepted(self):
        identity = Operator([P1])
        for left in [identity, -identity, Operator([K]), FIBONACCI, Operator.shift(4), Operator([Poly([-900, 1])])]:
            self.says(accepts_rows(NUMBERS, NUMBERS, ("equal", left, left)), True)
        longer = Row(FIBONACCI, fractions([0, 1, 1, 2]))
        self.says(accepts_rows(NUMBERS, longer, ("equal", identity, identity)), True)
        multiple = Row(LINE * FIBONACCI, fractions([0, 1, 1, 2]))
        self.says(accepts_rows(NUMBERS, multiple, ("equal", LINE, identity)), True)
        self.says(accepts_rows(multiple, NUMBERS, ("equal", identity, LINE)), True)

    def test_zero_parts(self):
        for left, right in [(NO_OPERATOR, NO_OPERATOR), (Operator([P1]), NO_OPERATOR), (NO_OPERATOR, Operator([P1]))]:
            self.says(accepts_rows(NUMBERS, NUMBERS, ("equal", left, right)), False)

    def test_products_that_differ(self):
        self.says(accepts_rows(NUMBERS, NUMBERS, ("equal", LINE, FIBONACCI)), False)
        self.says(accepts_rows(NUMBERS, NUMBERS, ("equal", Operator([P1]), Operator([Poly([2])]))), False)
        multiple = Row(LINE * FIBONACCI, fractions([0, 1, 1, 2]))
        self.says(accepts_rows(multiple, NUMBERS, ("equal", LINE, Operator([P1]))), False)

    def test_rows_that_differ(self):
        identity = Operator([P1])
        for initial in [[1, 1], [0, 2], [0, 1, 2], [0, 1, 1, 2, 3, 6]]:
            self.says(accepts_rows(NUMBERS, Row(FIBONACCI, fractions(initial)), ("equal", identity, identity)), False)
        # 0, 1, 2, 3 .. and the Fibonacci numbers share a multiple, and the first two values.
        self.says(accepts_rows(NUMBERS, Row(LINE, fractions([0, 1])), compare_rows(
            Row(FIBONACCI, fractions([0, 0])), Row(LINE, fractions([0, 0])))), False)

    def test_values_behind_roots(self):
        # (n - 50) (u(n + 1) - u(n)) = 0 leaves the value at 51 open.
        constant = Operator([Poly([-1]), P1])
        operator = Operator([Poly([-50, 1])]) * constant
        one = Row(constant, fractions([1]))
        left = Operator([Poly([-50, 1])])
        self.says(accepts_rows(one, Row(operator, fractions([1] * 52)), ("equal", left, Operator([P1]))), True)
        self.says(accepts_rows(one, Row(operator, fractions([1] * 51 + [2])), ("equal", left, Operator([P1]))), False)
        self.says(accepts_rows(one, Row(operator, fractions([1] * 51 + [2])), ("different", 51)), True)

    def test_first_values_behind_since(self):
        # Both rows follow the operator only from where their first values end.
        constant = Operator([Poly([-1]), P1])
        late = Row(constant, fractions([1] * 30 + [2]))
        one = Row(constant, fractions([1]))
        identity = Operator([P1])
        self.says(accepts_rows(one, late, ("equal", identity, identity)), False)
        self.says(accepts_rows(late, one, ("equal", identity, identity)), False)
        self.says(accepts_rows(late, late, ("equal", identity, identity)), True)

    def test_order_0(self):
        zero = Row(Operator([P1]), [])
        few = Row(Operator([Poly([-4, 1])]), fractions([0, 0, 0, 0, 0]))
        self.says(accepts_rows(zero, few, ("equal", Operator([Poly([-4, 1])]), Operator([P1]))), True)
        few = Row(Operator([Poly([-4, 1])]), fractions([0, 0, 0, 0, 1]))
        self.says(accepts_rows(zero, few, ("equal", Operator([Poly([-4, 1])]), Operator([P1]))), False)

    def test_many_values(self):
        # The leading coefficient of a multiple may have roots that are much greater than needed.
        left = Operator([Poly([-10 ** 8, 1])])
        self.says(accepts_rows(NUMBERS, NUMBERS, ("equal", left, left)), True)
        other = Row(FIBONACCI, fractions([0, 1, 1, 3]))
        self.says(accepts_rows(NUMBERS, other, ("equal", left, left)), False)


if __name__ == "__main__":
    unittest.main()
