"""certsums.book: promises [46] to [50], the text of a book aside."""

import unittest

from certsums.binomialsum import BinomialSum
from certsums.book import Book
from certsums.compare import compare_rows
from certsums.definite import least_recurrence, recurrence
from certsums.errors import BeforeStart, DuplicateName, InvalidName, UnknownName, WrongKind
from certsums.fraction import Fraction
from certsums.operator import Operator
from certsums.poly import Poly
from certsums.poly2 import Poly2
from certsums.quotient import Quotient
from certsums.row import Row
from certsums.rowbuild import row_of_sum, row_of_term
from certsums.running import running_sum
from certsums.term import Term
from certsums.termbuild import factorial_term, power_term, quotient_term

ONE = Poly2([Poly([1])])
FIBONACCI = Operator([Poly([-1]), Poly([-1]), Poly([1])])
IDENTITY = Operator([Poly([1])])


def fractions(numbers):
    return [Fraction(x) for x in numbers]


def binomial_sum(weight=ONE, base=1, choose=1, rise=0, central=0):
    return BinomialSum(weight, Fraction(base), choose=choose, rise=rise, central=central)


POWERS = power_term(Fraction(2), 0)
LATE = factorial_term(0, 3)
SUMS = binomial_sum()
NUMBERS = Row(FIBONACCI, fractions([0, 1]))
SAME = ("equal", IDENTITY, IDENTITY)


def book_of(**things):
    book = Book()
    for name, thing in things.items():
        book.add(name, thing)
    return book


class BookTest(unittest.TestCase):
    def refuse(self, error, name, action, *arguments, **more):
        with self.assertRaises(error) as caught:
            action(*arguments, **more)
        self.assertEqual(caught.exception.name, name)


class NamesTest(BookTest):
    def test_things(self):
        book = Book()
        self.assertEqual((book.names(), book.claims()), ([], []))
        self.assertIsNone(book.add("powers", POWERS))
        book.add("b", SUMS)
        book.add("a1", NUMBERS)
        self.assertEqual(book.names(), ["powers", "b", "a1"])
        self.assertEqual([book.thing(name) for name in book.names()], [POWERS, SUMS, NUMBERS])

    def test_valid_names(self):
        book = Book()
        names = ["a", "z", "a0", "z9z", "abcdefghijklmnopqrst", "x0123456789012345678"]
        for name in names:
            book.add(name, POWERS)
        self.assertEqual(book.names(), names)

    def test_invalid_names(self):
        book = book_of(a=POWERS)
        for name in ["", "A", "aB", "1", "1a", " a", "a ", "a b", "a_b", "a-b", "abcdefghijklmnopqrstu", "\u00e4", "a\n",
                     "a\u0663", "\u0430", "x" * 1000, "a/b"]:
            self.refuse(InvalidName, name, book.add, name, POWERS)
            self.refuse(UnknownName, name, book.thing, name)
        self.assertEqual(book.names(), ["a"])

    def test_duplicate_names(self):
        book = book_of(a=POWERS, b=SUMS)
        self.refuse(DuplicateName, "a", book.add, "a", SUMS)
        self.refuse(DuplicateName, "b", book.add, "b", SUMS)
        self.assertEqual((book.names(), book.thing("a")), (["a", "b"], POWERS))

    def test_unknown_names(self):
        book = book_of(a=POWERS, late=LATE)
        for action in [book.thing, book.closed]:
            self.refuse(UnknownName, "x", action, "x")
        self.refuse(UnknownName, "x", book.value, "x", 0)
        self.refuse(UnknownName, "x", book.offer_running, "x", SAME)
        self.refuse(UnknownName, "x", book.offer_recurrence, "x", SAME)
        self.refuse(UnknownName, "x", book.offer_same, "x", "y", SAME)
        self.refuse(UnknownName, "x", book.offer_same, "x", "a", SAME)
        self.refuse(UnknownName, "y", book.offer_same, "a", "y", SAME)
        self.refuse(UnknownName, "x", book.same, "x", "y")
        self.refuse(UnknownName, "x", book.same, "x", "x")
        self.refuse(UnknownName, "y", book.same, "a", "y")
        # All names are looked up before the kinds.
        self.refuse(UnknownName, "y", book.offer_same, "late", "y", SAME)

    def test_lists_may_be_changed(self):
        book = book_of(a=POWERS)
        self.assertTrue(book.offer_running("a", running_sum(POWERS.ratio)))
        book.names().append("b")
        book.claims().clear()
        self.assertEqual((book.names(), len(book.claims())), (["a"], 1))


class RunningTest(BookTest):
    def test_accepted(self):
        book = book_of(powers=POWERS, late=LATE)
        closed, not_closed = running_sum(POWERS.ratio), running_sum(LATE.ratio)
        self.assertEqual((book.closed("powers"), book.closed("late")), ("unknown", "unknown"))
        self.assertIs(book.offer_running("powers", closed), True)
        self.assertIs(book.offer_running("late", not_closed), True)
        self.assertEqual((book.closed("powers"), book.closed("late")), ("closed", "open"))
        self.assertIs(book.offer_running("powers", closed), True)
        self.assertEqual(book.claims(), [("running", "powers", closed), ("running", "late", not_closed),
                                         ("running", "powers", closed)])
        self.assertIs(book.audit(), True)

    def test_refused(self):
        book = book_of(powers=POWERS, late=LATE)
        for certificate in [running_sum(LATE.ratio), ("closed", Quotient(Poly([]), Poly([1]))), ("different", 0), SAME,
                            recurrence(SUMS, order=1), recurrence(SUMS, order=0)]:
            self.assertIs(book.offer_running("powers", certificate), False)
        self.assertEqual((book.claims(), book.closed("powers")), ([], "unknown"))

    def test_wrong_kinds(self):
        book = book_of(sums=SUMS, numbers=NUMBERS)
        for name in ["sums", "numbers"]:
            self.refuse(WrongKind, name, book.offer_running, name, running_sum(POWERS.ratio))
            self.refuse(WrongKind, name, book.offer_running, name, ("different", 0))
            self.refuse(WrongKind, name, book.closed, name)


class RecurrenceTest(BookTest):
    def test_accepted(self):
        book = book_of(sums=SUMS)
        answers = least_recurrence(SUMS)
        for answer in answers:
            self.assertIs(book.offer_recurrence("sums", answer), True)
        self.assertEqual(book.claims(), [("recurrence", "sums", answer) for answer in answers])
        self.assertIs(book.audit(), True)

    def test_refused(self):
        book = book_of(sums=SUMS)
        for certificate in [recurrence(binomial_sum(choose=3), order=2), ("different", 0), SAME,
                            running_sum(POWERS.ratio), ("none", 0, 0, ()), ("none", -1, 0, ()),
                            ("recurrence", 1, Operator([]), Poly2([]))]:
            self.assertIs(book.offer_recurrence("sums", certificate), False)
        self.assertEqual(book.claims(), [])

    def test_wrong_kinds(self):
        book = book_of(powers=POWERS, numbers=NUMBERS)
        for name in ["powers", "numbers"]:
            self.refuse(WrongKind, name, book.offer_recurrence, name, recurrence(SUMS, order=1))


class SameTest(BookTest):
    def test_rows_and_terms(self):
        longer = Row(FIBONACCI, fractions([0, 1, 1]))
        other = Row(-row_of_term(POWERS).operator, fractions([1, 2]))
        book = book_of(numbers=NUMBERS, longer=longer, powers=POWERS, other=other)
        self.assertIs(book.offer_same("numbers", "longer", SAME), True)
        self.assertIs(book.offer_same("powers", "other", ("equal", IDENTITY, -IDENTITY)), True)
        self.assertIs(book.offer_same("powers", "other", SAME), False)
        self.assertIs(book.offer_same("numbers", "powers", SAME), False)
        self.assertIs(book.offer_same("numbers", "powers", ("different", 0)), True)
        self.assertEqual(book.claims(), [
            ("same", "numbers", "longer", SAME), ("same", "powers", "other", ("equal", IDENTITY, -IDENTITY)),
            ("same", "numbers", "powers", ("different", 0))])
        self.assertIs(book.audit(), True)

    def test_one_name_twice(self):
        book = book_of(numbers=NUMBERS)
        self.assertIs(book.offer_same("numbers", "numbers", SAME), True)
        self.assertIs(book.offer_same("numbers", "numbers", ("different", 0)), False)

    def test_certificates_of_other_questions(self):
        book = book_of(powers=POWERS, sums=SUMS)
        book.offer_recurrence("sums", recurrence(SUMS, order=1))
        for certificate in [running_sum(POWERS.ratio), recurrence(SUMS, order=1), recurrence(SUMS, order=0)]:
            self.assertIs(book.offer_same("powers", "powers", certificate), False)
            self.assertIs(book.offer_same("sums", "sums", certificate), False)

    def test_sums(self):
        # The sums of binomial(n, k) are the powers of 2.
        book = book_of(sums=SUMS, powers=POWERS)
        certificate = compare_rows(row_of_sum(SUMS), row_of_term(POWERS))
        self.assertEqual(certificate[0], "equal")
        self.assertIs(book.offer_same("sums", "powers", certificate), False)
        self.assertIs(book.offer_same("sums", "powers", ("different", 0)), False)
        # The certificate that there is no telescoper gives no row.
        self.assertIs(book.offer_recurrence("sums", recurrence(SUMS, order=0)), True)
        self.assertIs(book.offer_same("sums", "powers", certificate), False)
        self.assertIs(book.offer_same("powers", "sums", certificate), False)
        self.assertIs(book.offer_same("sums", "sums", SAME), False)
        self.assertIs(book.offer_recurrence("sums", recurrence(SUMS, order=1)), True)
        self.assertIs(book.offer_same("sums", "powers", certificate), True)
        self.assertIs(book.same("powers", "sums"), True)
        self.assertIs(book.audit(), True)

    def test_the_first_recurrence_counts(self):
        kind, order, operator, m = recurrence(SUMS, order=1)
        factor = Poly([-7, 1])
        double = (kind, order, Operator([factor]) * operator, Poly2.in_n(factor) * m)
        for first, second in [(double, (kind, order, operator, m)), ((kind, order, operator, m), double)]:
            book = book_of(sums=SUMS, powers=POWERS)
            self.assertTrue(book.offer_recurrence("sums", first))
            self.assertTrue(book.offer_recurrence("sums", second))
            row = row_of_term(POWERS)
            left, right = compare_rows(Row(first[2], fractions([2 ** n for n in range(20)])), row)[1:]
            self.assertIs(book.offer_same("sums", "powers", ("equal", left, right)), True)
            left, right = compare_rows(Row(second[2], fractions([2 ** n for n in range(20)])), row)[1:]
            self.assertIs(book.offer_same("sums", "powers", ("equal", left, right)), False)

    def test_sums_that_differ(self):
        first, second = binomial_sum(choose=2), binomial_sum(Poly2.line(0, 1, 1), choose=2)
        book = book_of(first=first, second=second)
        for name, s in [("first", first), ("second", second)]:
            self.assertTrue(book.offer_recurrence(name, least_recurrence(s)[-1]))
        self.assertIs(book.offer_same("first", "second", ("different", 1)), True)
        self.assertIs(book.offer_same("first", "second", ("different", 0)), False)
        self.assertIs(book.same("first", "second"), False)

    def test_wrong_kinds(self):
        later = power_term(Fraction(2), 1)
        before = power_term(Fraction(2), -1)
        book = book_of(late=LATE, later=later, before=before, numbers=NUMBERS, sums=SUMS)
        for name in ["late", "later", "before"]:
            self.refuse(WrongKind, name, book.offer_same, name, "numbers", SAME)
            self.refuse(WrongKind, name, book.offer_same, "numbers", name, SAME)
            self.refuse(WrongKind, name, book.offer_same, name, name, SAME)
            # The kind is looked at before the missing row of a sum and before the certificate.
            self.refuse(WrongKind, name, book.offer_same, "sums", name, SAME)
            self.refuse(WrongKind, name, book.offer_same, name, "sums", ("different", -1))
        self.refuse(WrongKind, "late", book.offer_same, "late", "later", SAME)
        self.refuse(WrongKind, "later", book.offer_same, "later", "late", SAME)
        self.assertEqual(book.claims(), [])


class ChainTest(BookTest):
    def test_chains(self):
        rows = {f"r{i}": Row(FIBONACCI, NUMBERS.prefix(2 + i)) for i in range(6)}
        book = book_of(**rows, late=LATE)
        for name in book.names():
            self.assertIs(book.same(name, name), True)
        for first, second in [("r0", "r1"), ("r2", "r1"), ("r3", "r2"), ("r4", "r5")]:
            self.assertIs(book.same(first, second), False)
            self.assertTrue(book.offer_same(first, second, SAME))
            self.assertIs(book.same(first, second), True)
            self.assertIs(book.same(second, first), True)
        for i in range(6):
            for j in range(6):
                self.assertIs(book.same(f"r{i}", f"r{j}"), (i < 4) == (j < 4))
        self.assertIs(book.same("late", "r0"), False)
        self.assertTrue(book.offer_same("r5", "r0", SAME))
        self.assertIs(book.same("r4", "r3"), True)

    def test_other_claims_do_not_count(self):
        other = Row(FIBONACCI, fractions([1, 1]))
        book = book_of(a=NUMBERS, b=other)
        self.assertTrue(book.offer_same("a", "b", ("different", 0)))
        self.assertIs(book.same("a", "b"), False)
        self.assertFalse(book.offer_same("a", "b", SAME))
        self.assertIs(book.same("a", "b"), False)


class ValueTest(BookTest):
    def test_values(self):
        book = book_of(late=LATE, sums=SUMS, numbers=NUMBERS, before=quotient_term(Quotient(Poly([1]), Poly([9, 1])), -4))
        self.assertEqual([book.value("late", k) for k in range(3, 6)], fractions([6, 24, 120]))
        self.assertEqual([book.value("sums", n) for n in range(4)], fractions([1, 2, 4, 8]))
        self.assertEqual([book.value("numbers", n) for n in range(6)], fractions([0, 1, 1, 2, 3, 5]))
        self.assertEqual(book.value("before", -4), Fraction(1, 5))

    def test_before_the_start(self):
        book = book_of(late=LATE)
        for index in [2, 0, -1, -2999]:
            with self.assertRaises(BeforeStart) as caught:
                book.value("late", index)
            self.assertEqual(caught.exception.index, index)


class AuditTest(BookTest):
    def test_empty(self):
        self.assertIs(Book().audit(), True)
        self.assertIs(book_of(a=POWERS).audit(), True)

    def test_claims_are_checked_again(self):
        # What another program puts among the claims is found out.
        book = book_of(powers=POWERS, sums=SUMS, numbers=NUMBERS)
        for claim in [("running", "powers", running_sum(LATE.ratio)), ("recurrence", "sums", ("none", 0, 0, ())),
                      ("same", "numbers", "powers", SAME), ("same", "sums", "sums", SAME)]:
            changed = book_of(powers=POWERS, sums=SUMS, numbers=NUMBERS)
            self.assertTrue(changed.offer_running("powers", running_sum(POWERS.ratio)))
            self.assertTrue(changed.audit())
            changed.accepted.append(claim)
            self.assertIs(changed.audit(), False)
        self.assertIs(book.audit(), True)

    def test_other_kinds(self):
        for other in [None, 0, "", [], POWERS]:
            self.assertFalse(Book() == other)


if __name__ == "__main__":
    unittest.main()
