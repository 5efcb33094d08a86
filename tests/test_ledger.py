"""certsums.ledger: promises [50] and [51]."""

import random
import unittest

from certsums.binomialsum import BinomialSum
from certsums.book import Book
from certsums.compare import compare_rows
from certsums.definite import least_recurrence
from certsums.errors import InvalidText, SummationError
from certsums.fraction import Fraction
from certsums.ledger import read_book, write_book
from certsums.operator import Operator
from certsums.poly import Poly
from certsums.poly2 import Poly2
from certsums.row import Row
from certsums.rowbuild import row_of_sum, row_of_term
from certsums.running import running_sum
from certsums.termbuild import factorial_term, power_term

IDENTITY = Operator([Poly([1])])
NUMBERS = Row(Operator([Poly([-1]), Poly([-1]), Poly([1])]), [Fraction(0), Fraction(1)])
POWERS = power_term(Fraction(2), 0)
SUMS = BinomialSum(Poly2([Poly([1])]), Fraction(1), choose=1, rise=0, central=0)
SMALL = """thing powers term 0 1 [2]:[1]
thing numbers row <[-1] [-1] [1]> (0 1)
running powers closed [1]:[1]
same numbers powers different 0
same numbers numbers equal <[1]> <[1]>"""


def whole_book():
    book = Book()
    late = factorial_term(0, 3)
    for name, thing in [("powers", POWERS), ("late", late), ("sums", SUMS), ("numbers", NUMBERS)]:
        book.add(name, thing)
    accepted = [book.offer_running("powers", running_sum(POWERS.ratio)), book.offer_running("late", running_sum(late.ratio))]
    accepted += [book.offer_recurrence("sums", answer) for answer in least_recurrence(SUMS)]
    accepted.append(book.offer_same("sums", "powers", compare_rows(row_of_sum(SUMS), row_of_term(POWERS))))
    accepted.append(book.offer_same("numbers", "sums", ("different", 0)))
    accepted.append(book.offer_running("powers", running_sum(POWERS.ratio)))
    assert all(accepted)
    return book


class LedgerTest(unittest.TestCase):
    def refuse(self, text, line=None):
        """The text is refused at the line with this number, from 0 on."""
        lines = text.split("\n")
        number = len(lines) - 1 if line is None else line
        with self.assertRaises(InvalidText) as caught:
            read_book(text)
        self.assertEqual(caught.exception.where, sum(len(part) + 1 for part in lines[:number]), text)

    def same_books(self, first, second):
        self.assertEqual(first.names(), second.names())
        self.assertEqual([first.thing(name) for name in first.names()], [second.thing(name) for name in second.names()])
        self.assertEqual(first.claims(), second.claims())


class WritingTest(LedgerTest):
    def test_empty(self):
        self.assertEqual(write_book(Book()), "")

    def test_lines(self):
        book = Book()
        book.add("powers", POWERS)
        self.assertEqual(write_book(book), "thing powers term 0 1 [2]:[1]")
        book.add("sums", SUMS)
        book.offer_running("powers", running_sum(POWERS.ratio))
        book.offer_recurrence("sums", ("none", 0, 0, ((Fraction(1),),)))
        self.assertEqual(write_book(book), "thing powers term 0 1 [2]:[1]\nthing sums sum {[1]} 1 1 0 0\n"
                                           "running powers closed [1]:[1]\nrecurrence sums none 0 0 ((1))")

    def test_things_stand_before_claims(self):
        book = Book()
        book.add("powers", POWERS)
        book.offer_running("powers", running_sum(POWERS.ratio))
        book.add("numbers", NUMBERS)
        book.offer_same("numbers", "powers", ("different", 0))
        book.offer_same("numbers", "numbers", ("equal", IDENTITY, IDENTITY))
        self.assertEqual(write_book(book), SMALL)


class ReadingTest(LedgerTest):
    def test_empty(self):
        book = read_book("")
        self.assertIsInstance(book, Book)
        self.assertEqual((book.names(), book.claims()), ([], []))

    def test_written_again(self):
        book = whole_book()
        text = write_book(book)
        found = read_book(text)
        self.same_books(found, book)
        self.assertEqual(write_book(found), text)
        self.assertTrue(found.audit())
        self.assertTrue(found.same("powers", "sums"))
        self.assertEqual((found.closed("powers"), found.closed("late")), ("closed", "open"))
        self.assertEqual(write_book(read_book(SMALL)), SMALL)

    def test_new_books(self):
        book = read_book(SMALL)
        other = read_book(SMALL)
        book.add("more", POWERS)
        self.assertEqual(other.names(), ["powers", "numbers"])
        # Further things may be added behind the claims, and are written before them.
        self.same_books(read_book(write_book(book)), book)

    def test_a_claim_that_needs_another_one(self):
        lines = write_book(whole_book()).split("\n")
        at = [i for i, line in enumerate(lines) if line.startswith("recurrence sums recurrence")]
        self.assertEqual(len(at), 1)
        without = lines[:at[0]] + lines[at[0] + 1:]
        self.refuse("\n".join(without), [i for i, line in enumerate(without) if line.startswith("same")][0])

    def test_empty_lines(self):
        self.refuse("\n", 0)
        self.refuse("\n" + SMALL, 0)
        self.refuse(SMALL + "\n", 5)
        self.refuse(SMALL + "\n\n", 5)
        lines = SMALL.split("\n")
        for number in range(1, len(lines)):
            self.refuse("\n".join(lines[:number] + [""] + lines[number:]), number)

    def test_things_behind_claims(self):
        lines = SMALL.split("\n")
        for number in range(3, 6):
            self.refuse("\n".join(lines[:number] + ["thing more term 0 1 [2]:[1]"] + lines[number:]), number)
        self.refuse("\n".join([lines[0], lines[2], lines[1]]), 2)
        self.refuse("\n".join([lines[2], lines[0], lines[1]]), 0)

    def test_forms_of_lines(self):
        for line in ["thing", "thing ", "thing more", "thing more ", "thing  more term 0 1 [2]:[1]", "Thing more term",
                     "thing more term 0 1 [2]:[1] ", " thing more term 0 1 [2]:[1]", "more term 0 1 [2]:[1]",
                     "thing more  term 0 1 [2]:[1]", "thing more term 0 1 [2]:[2]", "thing more term 0 0 [2]:[1]",
                     "thing more closed [1]:[1]", "thing Powers term 0 1 [2]:[1]", "thing 1 term 0 1 [2]:[1]",
                     "thing powers term 0 1 [2]:[1]", "thing morethantwentysigns12 term 0 1 [2]:[1]", "x", " ", "\t",
                     "thing more sum {} 1 1 0 0", "thing more row <[1] [1]> ()", "thing\tmore term 0 1 [2]:[1]",
                     "thing more term 0 1 [2]:[1]\r", "things more term 0 1 [2]:[1]"]:
            self.refuse(SMALL.split("\n")[0] + "\n" + line, 1)
            if not line.startswith("thing powers "):
                self.refuse(line + "\n" + SMALL, 0)

    def test_claims(self):
        for line in ["running", "running powers", "running powers ", "running powers closed [2/2]:[1]", "running closed [1]:[1]",
                     "running powers closed [2]:[1]", "running numbers closed [1]:[1]", "running x closed [1]:[1]",
                     "running powers different 0", "running  powers closed [1]:[1]", "running powers closed [1]:[1] ",
                     "recurrence powers none 0 0 ((1))", "recurrence x none 0 0 ((1))", "recurrence numbers different 0",
                     "same numbers powers different 1", "same numbers", "same numbers powers", "same numbers powers ",
                     "same numbers different 0", "same powers x different 0", "same x powers different 0",
                     "same numbers powers equal <[1]> <[1]>", "same numbers powers different -1",
                     "same numbers powers closed [1]:[1]", "claim powers closed [1]:[1]", "running  closed [1]:[1]",
                     "same numbers  powers different 0"]:
            self.refuse(SMALL + "\n" + line, 5)
            self.refuse(SMALL + "\n" + line + "\n" + line, 5)

    def test_the_first_invalid_line_counts(self):
        lines = SMALL.split("\n")
        for number in range(5):
            for later in range(number + 1, 5):
                changed = list(lines)
                changed[number] = changed[number] + "x"
                changed[later] = "?"
                self.refuse("\n".join(changed), number)

    def test_wrong_kinds(self):
        text = "thing late term 3 6 [1 1]:[1]\nthing numbers row <[-1] [-1] [1]> (0 1)"
        read_book(text)
        self.refuse(text + "\nsame late late equal <[1]> <[1]>", 2)
        self.refuse(text + "\nsame numbers late different 0", 2)
        self.refuse("thing sums sum {[1]} 1 1 0 0\nsame sums sums equal <[1]> <[1]>", 1)

    def test_changed_texts(self):
        source = random.Random(1)
        text = write_book(whole_book())
        refused = 0
        for _ in range(600):
            at = source.randrange(len(text))
            char = source.choice("0123456789-/ ()[]{}<>:\nxaes")
            changed = source.choice([text[:at] + char + text[at:], text[:at] + text[at + 1:],
                                     text[:at] + char + text[at + 1:]])
            try:
                self.assertEqual(write_book(read_book(changed)), changed)
            except SummationError as error:
                self.assertIs(type(error), InvalidText)
                # The first invalid line is not before the changed one.
                start = text.rfind("\n", 0, at) + 1
                self.assertTrue(error.where == 0 or changed[error.where - 1] == "\n")
                self.assertGreaterEqual(error.where, min(start, changed.rfind("\n", 0, at) + 1))
                refused += 1
        self.assertGreater(refused, 400)


if __name__ == "__main__":
    unittest.main()
