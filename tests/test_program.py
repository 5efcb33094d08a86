"""The whole program: what one part makes, the others accept, write, read and keep; promises [1] to [3], [40] to [51]."""

import itertools
import random
import unittest

from certsums.binomialsum import BinomialSum
from certsums.book import Book
from certsums.checker import accepts_recurrence, accepts_rows, accepts_running
from certsums.compare import compare_rows, compare_sums
from certsums.definite import least_recurrence, recurrence
from certsums.degree import degree_bound
from certsums.errors import InvalidText
from certsums.fraction import Fraction
from certsums.ledger import read_book, write_book
from certsums.margin import free_from, roots_from
from certsums.operator import Operator
from certsums.poly import Poly
from certsums.poly2 import Poly2
from certsums.quotient import Quotient
from certsums.reading import read_certificate, read_thing
from certsums.row import Row
from certsums.rowbuild import (add_rows, move_row, multiply_rows, partial_sums, row_of_sum, row_of_term, scale_row)
from certsums.running import running_sum
from certsums.telescoping import backward, column, equations, forward
from certsums.term import Term
from certsums.termbuild import difference_term, factorial_term, power_term, quotient_term
from certsums.writing import write_certificate, write_thing

ZERO, ONE = Fraction(0), Fraction(1)
KINDS = [(choose, rise, central) for choose in range(1, 4) for rise in range(3) for central in range(3)
         if choose + rise + central <= 3]


def with_roots(roots):
    found = Poly([1])
    for root in roots:
        found = found * Poly([-root, 1])
    return found


def random_ratio(source):
    num, den = [with_roots([source.randint(-3, 3) for _ in range(source.randint(0, 3))]) for _ in range(2)]
    return Quotient(num.scaled(Fraction(source.choice([-2, 1, 1, 3]), source.choice([1, 1, 2]))), den)


def sums(source):
    for choose, rise, central in KINDS:
        weight = Poly2([Poly([source.randint(-2, 2), 1]), Poly([source.randint(-2, 2)])])
        base = source.choice([ONE, -ONE, Fraction(1, 4), Fraction(-3, 2)])
        yield BinomialSum(weight, base, choose=choose, rise=rise, central=central)


def small_rows():
    fibonacci = Row(Operator([Poly([-1]), Poly([-1]), Poly([1])]), [ZERO, ONE])
    powers = row_of_term(power_term(Fraction(-2), 0))
    factorials = row_of_term(factorial_term(0, 0))
    late = Row(Operator([Poly([-1]), Poly([-9, 1])]), [Fraction(x) for x in range(11)])
    return [fibonacci, powers, factorials, late, add_rows(fibonacci, powers), add_rows(powers, fibonacci),
            multiply_rows(fibonacci, fibonacci), partial_sums(factorials), move_row(fibonacci), move_row(late),
            scale_row(fibonacci, ZERO), Row(Operator([Poly([1])]), []),
            row_of_sum(BinomialSum(Poly2([Poly([1])]), Fraction(-3), choose=1, rise=0, central=0))]


# What the points 41 and 42 say, in other words than the checker's.

def running_holds(ratio, certificate):
    if certificate[0] == "closed":
        y = certificate[1]
        return ratio * y.shifted(1) - y == Quotient(Poly([1]), Poly([1]))
    _, a, b, c, u, v, w, f = certificate
    if a.is_zero or b.is_zero or c.is_zero or w.is_zero or Quotient(a * c.shifted(1), b * c) != ratio:
        return False
    for h, k in itertools.product(range(-9, 10), range(-9, 10)):
        if u.value_at(h, k) * a.at(k) + v.value_at(h, k) * b.at(k + h) != w.at(h):
            return False

    def number(p):
        total = ZERO
        for e, x in enumerate(f):
            total = total + x * p.coefficient(e)
        return total

    zeros = [number(a * Poly([1, 1]).power(i) - b.shifted(-1) * Poly([0, 1]).power(i))
             for i in range(degree_bound(a, b, c) + 1)]
    return roots_from(w, start=0) == [] and number(c) != ZERO and zeros == [ZERO] * len(zeros)


def recurrence_holds(s, certificate):
    if certificate[1] < 0:
        return False
    if certificate[0] == "none":
        _, order, n, inverse = certificate
        rows, width = equations(s, order)
        if [len(row) for row in inverse] != [len(rows)] * width:
            return False
        for i, j in itertools.product(range(width), range(width)):
            total = ZERO
            for e, row in enumerate(rows):
                total = total + inverse[i][e] * row[j].at(n)
            if total != (ONE if i == j else ZERO):
                return False
        return True
    _, order, operator, m = certificate
    if operator.is_zero or operator.order > order:
        return False
    columns = [column(s, order, j) for j in range(operator.order + 1)]
    ahead, behind = forward(s, order), backward(s)
    for n, k in itertools.product(range(30), range(-9, 10)):
        total = behind.value_at(n, k) * m.value_at(n, k) - ahead.value_at(n, k) * m.value_at(n, k + 1)
        for p, part in zip(operator.coefs, columns):
            total = total + p.at(n) * part.value_at(n, k)
        if total != ZERO:
            return False
    return True


def rows_hold(first, second, certificate):
    if certificate[0] == "different":
        index = certificate[1]
        return (index >= 0 and first.prefix(index) == second.prefix(index)
                and first.value(index) != second.value(index))
    _, left, right = certificate
    multiple = left * first.operator
    if multiple.is_zero or not (multiple - right * second.operator).is_zero:
        return False
    count = max(first.since, second.since, free_from(multiple.lead, start=0)) + multiple.order
    return first.prefix(count) == second.prefix(count)


class ProgramTest(unittest.TestCase):
    def check_written(self, certificate):
        text = write_certificate(certificate)
        self.assertEqual(read_certificate(text), certificate)
        return text


class AcceptedTest(ProgramTest):
    def test_running_sums(self):
        source = random.Random(1)
        kinds = []
        for _ in range(150):
            ratio = random_ratio(source)
            certificate = running_sum(ratio)
            self.assertIs(accepts_running(ratio, certificate), True)
            self.assertTrue(running_holds(ratio, certificate))
            self.check_written(certificate)
            kinds.append(certificate[0])
        self.assertGreater(min(kinds.count("closed"), kinds.count("open")), 10)

    def test_recurrences(self):
        for s in sums(random.Random(2)):
            for certificate in least_recurrence(s) + [recurrence(s, order=s.factors)]:
                self.assertIs(accepts_recurrence(s, certificate), True)
                self.check_written(certificate)

    def test_comparisons(self):
        for first, second in itertools.product(small_rows(), repeat=2):
            certificate = compare_rows(first, second)
            self.assertIs(accepts_rows(first, second, certificate), True)
            self.assertTrue(rows_hold(first, second, certificate))
            self.check_written(certificate)

    def test_comparisons_of_sums(self):
        made = list(sums(random.Random(3)))[:6]
        for first, second in itertools.product(made, repeat=2):
            certificate = compare_sums(first, second)
            self.assertIs(accepts_rows(row_of_sum(first), row_of_sum(second), certificate), True)
            self.assertEqual(certificate[0] == "equal", first == second)

    def test_greatest_ratios(self):
        huge = 10 ** 400 - 1
        source = random.Random(4)
        for degree, size in [(6, 10 ** 30), (3, huge)]:
            num, den = [Poly([source.randint(-size, size) for _ in range(degree + 1)]) for _ in range(2)]
            certificate = running_sum(Quotient(num, den))
            self.assertIs(accepts_running(Quotient(num, den), certificate), True)
            self.check_written(certificate)

    def test_things(self):
        source = random.Random(5)
        terms = [power_term(Fraction(-7, 3), -5), factorial_term(2, 9), difference_term(factorial_term(1, 0)),
                 quotient_term(Quotient(Poly([1, 2]), Poly([3, 1])), 0), Term(2999, ONE, Quotient.whole(Poly([1])))]
        for thing in terms + list(sums(source)) + small_rows():
            self.assertEqual(read_thing(write_thing(thing)), thing)


class ChangedTest(ProgramTest):
    """A certificate with a changed part is accepted if and only if the points say so."""

    def check(self, question, certificates, accepts, holds, source, count):
        accepted = 0
        for certificate in certificates:
            text = self.check_written(certificate)
            for _ in range(count):
                changed = self.changed(source, text)
                if changed is not None and changed[0] == certificate[0]:
                    found = accepts(*question, changed)
                    self.assertIs(found, holds(*question, changed), write_certificate(changed))
                    accepted += found
        return accepted

    def changed(self, source, text):
        """A certificate with a written form that differs a little, or None if there is none."""
        at = source.randrange(text.index(" ") + 1, len(text) + 1)
        more = source.choice(["0", "1", "2", "-", "0 ", " 1", "-1 ", "/3", "1 ", "[1] ", " [1]", "(1) ", " ()"])
        text = source.choice([text[:at] + more + text[at:], text[:at] + more + text[at + 1:], text[:at] + text[at + 1:]])
        try:
            return read_certificate(text)
        except InvalidText:
            return None

    def test_running_sums(self):
        source = random.Random(6)
        accepted = 0
        for _ in range(40):
            ratio = random_ratio(source)
            accepted += self.check((ratio,), [running_sum(ratio)], accepts_running, running_holds, source, 40)
        self.assertGreater(accepted, 0)

    def test_recurrences(self):
        source = random.Random(7)
        for s in sums(source):
            self.check((s,), least_recurrence(s), accepts_recurrence, recurrence_holds, source, 25)

    def test_comparisons(self):
        source = random.Random(8)
        rows = small_rows()
        accepted = 0
        for first, second in itertools.product(rows, repeat=2):
            certificates = [compare_rows(first, second)]
            accepted += self.check((first, second), certificates, accepts_rows, rows_hold, source, 25)
        self.assertGreater(accepted, 0)


class BookTest(ProgramTest):
    def test_a_book_of_everything(self):
        book = Book()
        made = list(sums(random.Random(9)))[:5]
        for i, s in enumerate(made):
            book.add(f"s{i}", s)
            for certificate in least_recurrence(s):
                self.assertTrue(book.offer_recurrence(f"s{i}", certificate))
        for i, row in enumerate(small_rows()):
            book.add(f"r{i}", row)
        for name, term in [("t0", power_term(Fraction(3), 0)), ("t1", factorial_term(0, 0)), ("t2", factorial_term(0, 2))]:
            book.add(name, term)
            self.assertTrue(book.offer_running(name, running_sum(term.ratio)))
        rows = {f"r{i}": row for i, row in enumerate(small_rows())}
        rows.update({f"s{i}": row_of_sum(s) for i, s in enumerate(made)})
        rows.update({name: row_of_term(book.thing(name)) for name in ("t0", "t1")})
        equal = 0
        for first, second in itertools.combinations(rows, 2):
            certificate = compare_rows(rows[first], rows[second])
            self.assertTrue(book.offer_same(first, second, certificate))
            self.assertEqual(book.same(second, first), certificate[0] == "equal")
            equal += certificate[0] == "equal"
        self.assertGreater(equal, 0)
        self.assertTrue(book.audit())
        text = write_book(book)
        found = read_book(text)
        self.assertEqual((found.names(), found.claims()), (book.names(), book.claims()))
        self.assertEqual([found.thing(name) for name in found.names()], [book.thing(name) for name in book.names()])
        self.assertEqual(write_book(found), text)
        self.assertTrue(found.audit())


if __name__ == "__main__":
    unittest.main()
