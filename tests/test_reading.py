"""certsums.reading: promises [44] and [45]."""

import functools
import math
import random
import re
import unittest

from certsums.binomialsum import BinomialSum
from certsums.compare import compare_rows
from certsums.definite import least_recurrence
from certsums.errors import InvalidText
from certsums.fraction import Fraction
from certsums.operator import Operator
from certsums.poly import Poly
from certsums.poly2 import Poly2
from certsums.quotient import Quotient
from certsums.reading import read_certificate, read_thing
from certsums.row import Row
from certsums.running import running_sum
from certsums.term import Term
from certsums.termbuild import factorial_term, power_term
from certsums.writing import write_certificate, write_thing

P0, P1 = Poly([]), Poly([1])
ONE = Poly2([P1])
FIBONACCI = Row(Operator([Poly([-1]), Poly([-1]), P1]), [Fraction(0), Fraction(1)])
CERTIFICATES = [
    ("closed", Quotient(Poly([1, -3], 2), Poly([0, 0, 1]))),
    ("closed", Quotient(P0, P1)),
    ("open", P1, Poly([2, 4], 6), P0, Poly2([Poly([0, 1]), P0, Poly([-1], 3)]), Poly2([]), Poly([-5]),
     (Fraction(0), Fraction(-3, 4), Fraction(7))),
    ("open", P0, P0, P0, Poly2([]), Poly2([]), P0, ()),
    running_sum(Quotient(Poly([0, 1]), Poly([1, 1]))),
    ("recurrence", 1, Operator([Poly([-2, -4]), Poly([1, 1])]), Poly2([Poly([3])])),
    ("recurrence", 0, Operator([]), Poly2([])),
    ("none", 0, 0, ((Fraction(1),),)),
    ("none", 12, -34, ((Fraction(1, 2), Fraction(0)), (Fraction(-1), Fraction(5, 3)))),
    ("none", 1, 2, ()),
    ("none", 10 ** 999, -10 ** 999, ((), (Fraction(1),))),
    ("equal", Operator([]), Operator([P0, Poly([0, 1], 2)])),
    ("different", 0),
    ("different", 2999),
    *least_recurrence(BinomialSum(ONE, Fraction(1), choose=2, rise=1, central=0)),
    compare_rows(FIBONACCI, FIBONACCI),
]
THINGS = [
    power_term(Fraction(-1, 2), 0),
    factorial_term(3, -2),
    Term(10, Fraction(-2, 3), Quotient(Poly([1, 1]), Poly([0, 5]))),
    Term(10 ** 999, Fraction(1), Quotient(P1, Poly([0, 1]))),
    BinomialSum(Poly2.line(1, -2, 3), Fraction(-1, 4), choose=2, rise=0, central=1),
    BinomialSum(ONE, Fraction(1), choose=10 ** 999, rise=10 ** 50, central=10),
    FIBONACCI,
    Row(Operator([P1]), []),
    Row(Operator([Poly([0, 1]), Poly([-2, 1])]), [Fraction(1, 3)] * 5),
]


# An independent reading of the forms: a text is possible as far as its characters lead from one expression to another.

class Nothing:
    """An expression that no text has."""


class Chars:
    def __init__(self, chars):
        self.chars = chars


class Both:
    def __init__(self, first, second):
        self.first, self.second = first, second


class Either:
    def __init__(self, parts):
        self.parts = parts


class Many:
    def __init__(self, part):
        self.part = part


NOTHING, EMPTY = Nothing(), Many(Nothing())


def either(parts):
    parts = [part for part in parts if not isinstance(part, Nothing)]
    return NOTHING if not parts else parts[0] if len(parts) == 1 else Either(parts)


def row_of(*parts):
    """Expressions and single characters, one behind the other."""
    forms = [Chars(part) if isinstance(part, str) else part for part in parts]
    return functools.reduce(lambda rest, form: Both(form, rest), reversed(forms))


def may_end(form):
    if isinstance(form, Both):
        return may_end(form.first) and may_end(form.second)
    if isinstance(form, Either):
        return any(may_end(part) for part in form.parts)
    return isinstance(form, Many)


def behind(form, char):
    """What can follow the character, where it comes first."""
    if isinstance(form, Chars):
        return EMPTY if char in form.chars else NOTHING
    if isinstance(form, Either):
        return either([behind(part, char) for part in form.parts])
    if isinstance(form, Many):
        rest = behind(form.part, char)
        return NOTHING if isinstance(rest, Nothing) else Both(rest, form)
    if isinstance(form, Both):
        rest = behind(form.first, char)
        parts = [] if isinstance(rest, Nothing) else [form.second if rest is EMPTY else Both(rest, form.second)]
        return either(parts + ([behind(form.second, char)] if may_end(form.first) else []))
    return NOTHING


def listed(first, part, last):
    return row_of(first, either([EMPTY, row_of(part, Many(row_of(" ", part)))]), last)


DIGIT, NOT_ZERO = Chars("0123456789"), Chars("123456789")
POSITIVE = row_of(NOT_ZERO, Many(DIGIT))
NATURAL = either([Chars("0"), POSITIVE])
WHOLE = either([NATURAL, row_of("-", POSITIVE)])
FRACTION = row_of(WHOLE, either([EMPTY, row_of("/", POSITIVE)]))
LIST = listed("(", FRACTION, ")")
MATRIX = listed("(", LIST, ")")
POLY = listed("[", FRACTION, "]")
POLY2 = listed("{", POLY, "}")
OPERATOR = listed("<", POLY, ">")
QUOTIENT = row_of(POLY, ":", POLY)


def parts_of(word, *parts):
    return row_of(*word, *[piece for part in parts for piece in (" ", part)])


CERTIFICATE_FORMS = either([
    parts_of("closed", QUOTIENT), parts_of("open", POLY, POLY, POLY, POLY2, POLY2, POLY, LIST),
    parts_of("recurrence", NATURAL, OPERATOR, POLY2), parts_of("none", NATURAL, WHOLE, MATRIX),
    parts_of("equal", OPERATOR, OPERATOR), parts_of("different", NATURAL)])
THING_FORMS = either([
    parts_of("term", WHOLE, FRACTION, QUOTIENT), parts_of("sum", POLY2, FRACTION, NATURAL, NATURAL, NATURAL),
    parts_of("row", OPERATOR, LIST)])


def first_impossible(forms, text):
    """The index of the first character that is not possible, the length if the text ends too early, or None."""
    form = forms
    for index, char in enumerate(text):
        form = behind(form, char)
        if isinstance(form, Nothing):
            return index
    return None if may_end(form) else len(text)


def poly_of(text):
    parts = text[1:-1].split(" ") if len(text) > 2 else []
    pairs = [(part + "/1").split("/")[:2] for part in parts]
    found = P0
    for i, (num, den) in enumerate(pairs):
        found = found + Poly([0] * i + [int(num)], int(den))
    return found


def first_bad_part(text, end):
    """The index behind the first part that is not allowed, of those that end up to an index, or None.

    Terms, sums and rows as a whole are left out.
    """
    ends = []
    for found in re.finditer(r"(?<![0-9])(-?[0-9]+)/([0-9]+)", text[:end]):
        # A number is read up to its last digit.
        if not text[found.end():found.end() + 1].isdigit():
            num, den = int(found.group(1)), int(found.group(2))
            if den == 1 or math.gcd(num, den) != 1:
                ends.append(found.end())
    for found in re.finditer(r"[\[ ]0\]", text[:end]):
        ends.append(found.end())
    for found in re.finditer(r"\[\][}>]", text[:end]):
        ends.append(found.end())
    for found in re.finditer(r"(\[[^\]]*\]):(\[[^\]]*\])", text[:end]):
        if not [e for e in ends if e <= found.end()]:
            num, den = poly_of(found.group(1)), poly_of(found.group(2))
            if den.is_zero or Quotient(num, den).num != num or Quotient(num, den).den != den:
                ends.append(found.end())
    return min(ends, default=None)


class ReadingTest(unittest.TestCase):
    def refuse(self, read, text, where):
        with self.assertRaises(InvalidText) as caught:
            read(text)
        self.assertEqual(caught.exception.where, where, text)

    def refuse_certificate(self, text, where):
        self.assertEqual(where, first_error(CERTIFICATE_FORMS, text))
        self.refuse(read_certificate, text, where)

    def refuse_thing(self, text, where):
        self.refuse(read_thing, text, where)


def first_error(forms, text):
    end = first_impossible(forms, text)
    bad = first_bad_part(text, len(text) if end is None else end)
    return end if bad is None else bad


class WrittenFormsTest(ReadingTest):
    def test_certificates(self):
        for certificate in CERTIFICATES:
            text = write_certificate(certificate)
            found = read_certificate(text)
            self.assertEqual(found, certificate)
            self.assertEqual(write_certificate(found), text)
            self.assertIsNone(first_error(CERTIFICATE_FORMS, text))

    def test_kinds_of_parts(self):
        found = read_certificate("none 1 -2 ((1 2) (3))")
        self.assertEqual(found, ("none", 1, -2, ((Fraction(1), Fraction(2)), (Fraction(3),))))
        self.assertTrue(type(found[3]) is tuple and type(found[3][0]) is tuple)
        found = read_certificate("open [] [] [] {} {} [] (1)")
        self.assertIs(type(found[7]), tuple)
        self.assertEqual(read_certificate("different 7"), ("different", 7))

    def test_things(self):
        for thing in THINGS:
            text = write_thing(thing)
            found = read_thing(text)
            self.assertIs(type(found), type(thing))
            self.assertEqual(found, thing)
            self.assertEqual(write_thing(found), text)

    def test_long_texts(self):
        # Certificates of the program may have numbers of more than 4300 digits.
        huge = 10 ** 399 + 7
        ratio = Quotient(Poly([huge + i * i for i in range(7)]), Poly([huge * 3 - i ** 3 for i in range(7)]))
        certificate = running_sum(ratio)
        text = write_certificate(certificate)
        self.assertGreater(len(max(re.findall("[0-9]+", text), key=len)), 4300)
        self.assertEqual(read_certificate(text), certificate)

    def test_greatest_numbers(self):
        digits = "7" * 1000
        self.assertEqual(read_certificate("different " + digits), ("different", 7 * (10 ** 1000 - 1) // 9))
        self.assertEqual(read_certificate(f"closed [{digits}/{digits}1]:[1]")[1].num.lead.num, 7 * (10 ** 1000 - 1) // 9)
        self.assertEqual(read_thing(f"term -{digits} 1 [2]:[1]").start, -(7 * (10 ** 1000 - 1) // 9))
        self.assertEqual(read_thing(f"sum {{[1]}} 1 {digits} {digits} {digits}").factors, 7 * (10 ** 1000 - 1) // 3)


class ImpossibleCharactersTest(ReadingTest):
    def test_words(self):
        for text, where in [("", 0), ("c", 1), ("closed", 6), ("closed ", 7), ("Closed", 0), (" closed", 0),
                            ("clothed", 3), ("closed  [1]:[1]", 7), ("closed[1]:[1]", 6), ("term 0 1 [1]:[1]", 0),
                            ("opened", 4), ("row <> ()", 1), ("recurrence", 10), ("row", 1), ("none\t", 4), ("x", 0),
                            ("different", 9), ("equal <> ", 9)]:
            self.refuse_certificate(text, where)
        for text, where in [("", 0), ("t", 1), ("terms", 4), ("closed []:[1]", 0), ("sun", 2), ("sum", 3), ("row ", 4),
                            ("rows", 3), ("recurrence", 1), ("\nrow", 0)]:
            self.refuse_thing(text, where)

    def test_numbers(self):
        for text, where in [("different -1", 10), ("different +1", 10), ("different 01", 11), ("different 00", 11),
                            ("different ", 10), ("different 5 ", 11), ("different 5\n", 11), ("different 5/2", 11),
                            ("different 1_0", 11), ("different \u0663", 10), ("different 1\u0663", 11),
                            ("none 1 -0 ()", 8), ("none 1 -01 ()", 8), ("none 1 - ()", 8), ("none -1 0 ()", 5),
                            ("none 1 --1 ()", 8), ("none 1 1/2 ()", 8), ("recurrence -1 <> {}", 11),
                            ("recurrence 1.0 <> {}", 12), ("none 1 -", 8), ("none 00 1 ()", 6)]:
            self.refuse_certificate(text, where)
        for text, where in [("term -0 1 [1]:[1]", 6), ("term 00 1 [1]:[1]", 6), ("term +1 1 [1]:[1]", 5),
                            ("sum {[1]} 1 -1 0 0", 12), ("sum {[1]} 1 1 -1 0", 14), ("sum {[1]} 1 1 0 -1", 16),
                            ("sum {[1]} 1 1 0", 15), ("sum {[1]} 1 1 0 ", 16), ("sum {[1]} 1 1 0 01", 17),
                            ("sum {[1]} 1 1/2 0 0", 13), ("term 1/2 1 [1]:[1]", 6)]:
            self.refuse_thing(text, where)

    def test_fractions(self):
        for text, where in [("closed [1/]:[1]", 10), ("closed [1/0]:[1]", 10), ("closed [1/-2]:[1]", 10),
                            ("closed [1/02]:[1]", 10), ("closed [/2]:[1]", 8), ("closed [1/2/3]:[1]", 11),
                            ("closed [-/2]:[1]", 9), ("closed [1/", 10), ("closed [-0/3]:[1]", 9), ("closed [01/3]", 9),
                            ("closed [1 /2]:[1]", 10), ("closed [0/0]", 10), ("closed [1/x", 10)]:
            self.refuse_certificate(text, where)

    def test_lists(self):
        for text, where in [("closed [ 1]:[1]", 8), ("closed [1 ]:[1]", 10), ("closed [1  2]:[1]", 10),
                            ("closed [1,2]:[1]", 9), ("closed [1):[1]", 9), ("closed (1):[1]", 7), ("closed [1] :[1]", 10),
                            ("closed [1]: [1]", 11), ("closed [1]", 10), ("closed [1]:", 11), ("closed [1]:[1", 13),
                            ("closed [1]:[1] ", 14), ("closed [1]:[1]]", 14), ("closed [[1]]:[1]", 8),
                            ("equal <[1] > <>", 11), ("equal < [1]> <>", 7), ("equal <1> <>", 7), ("equal <[1][2]> <>", 10),
                            ("equal <>  <>", 9), ("equal <> <>>", 11), ("equal <> {}", 9), ("equal <[1]} <>", 10),
                            ("none 0 0 (1)", 10), ("none 0 0 ((1)(2))", 13), ("none 0 0 ((1) )", 14),
                            ("none 0 0 (()", 12), ("none 0 0 ( ())", 10), ("recurrence 1 <> [1]", 16),
                            ("recurrence 1 <> {[1] 2}", 21)]:
            self.refuse_certificate(text, where)

    def test_each_certificate_cut_short(self):
        for certificate in CERTIFICATES[:14]:
            text = write_certificate(certificate)
            for length in range(min(len(text), 200)):
                start = text[:length]
                expected = first_error(CERTIFICATE_FORMS, start)
                if expected is not None:
                    self.refuse_certificate(start, expected)

    def test_behind_the_end(self):
        for certificate in CERTIFICATES:
            text = write_certificate(certificate)
            for more in [" ", "]", "x", "\n", " 1", "("]:
                self.refuse(read_certificate, text + more, len(text))
        for thing in THINGS:
            text = write_thing(thing)
            for more in [" ", "]", "x", "\n", " 1", ")"]:
                self.refuse(read_thing, text + more, len(text))


class PartsThatAreNotAllowedTest(ReadingTest):
    def test_examples(self):
        self.refuse_certificate("closed [2/4]:[1]", 11)
        self.refuse_certificate("closed [0/5]:[1]", 11)

    def test_fractions(self):
        for text, where in [("closed [5/1]:[1]", 11), ("closed [0/1]:[1]", 11), ("closed [-6/4]:[1]", 12),
                            ("closed [1 2/4 x", 13), ("closed [2/4", 11), ("closed [2/4x", 11), ("closed [2/44]", 12),
                            ("open [] [] [] {} {} [] (1 3/3)", 29), ("none 1 1 ((4/2))", 14), ("closed [12/8", 12),
                            ("closed [7/10]:[10/5]", 19)]:
            self.refuse_certificate(text, where)
        self.refuse_thing("term 0 2/2 [1]:[1]", 10)
        self.refuse_thing("row <[1]> (1/2 2/6)", 18)
        self.refuse_thing("sum {[1]} 3/1 1 0 0", 13)

    def test_last_entries(self):
        for text, where in [("closed [0]:[1]", 10), ("closed [1 0]:[1]", 12), ("closed [1]:[1 0]", 16),
                            ("equal <[]> <>", 10), ("equal <[1] []> <>", 14), ("equal <[0]> <>", 10),
                            ("equal <> <[] []>", 16), ("recurrence 1 <> {[]}", 20), ("recurrence 1 <> {[1] [2] []}", 28),
                            ("open [1] [2 0] [] {} {} [] ()", 14), ("closed [1 0", 11), ("equal <[]", 9),
                            ("open [] [] [] {[]} {} [] ()", 18)]:
            self.refuse_certificate(text, where)

    def test_zeros_that_are_allowed(self):
        self.assertEqual(read_certificate("equal <[] [0 1]> <>")[1], Operator([P0, Poly([0, 1])]))
        self.assertEqual(read_certificate("open [] [] [] {} {} [] (0 0)")[7], (Fraction(0), Fraction(0)))
        self.assertEqual(read_certificate("closed []:[1]")[1], Quotient(P0, P1))

    def test_quotients(self):
        for text, where in [("closed [1]:[]", 13), ("closed []:[]", 12), ("closed []:[2]", 13), ("closed []:[0 1]", 15),
                            ("closed [1]:[2]", 14), ("closed [0 1]:[0 1]", 18), ("closed [1 1]:[1 2 1]", 20),
                            ("closed [1]:[1 -1]", 17), ("closed [1]:[1/2]", 16), ("closed [1]:[1 2]x", 16)]:
            self.refuse_certificate(text, where)
        self.refuse_thing("term 0 1 [2]:[2]", 16)

    def test_terms(self):
        for text in ["term 0 0 [1]:[1]", "term 0 1 []:[1]", "term 0 1 [-3 1]:[1]", "term 3 1 [-3 1]:[1]",
                     "term 0 1 [1]:[-7 1]", "term -5 1 [1]:[5 1]", "term 0 1 [0 1]:[1]"]:
            self.refuse_thing(text, len(text))
            self.refuse_thing(text + " ", len(text))
        self.assertEqual(read_thing("term 4 1 [-3 1]:[1]"), Term(4, Fraction(1), Quotient(Poly([-3, 1]), P1)))
        # An error before the end of the term is met first.
        self.refuse_thing("term 0 0 [1]:x", 13)
        self.refuse_thing("term 0 0 [2/2]:[1]", 13)

    def test_sums(self):
        for text in ["sum {} 1 1 0 0", "sum {[1]} 0 1 0 0", "sum {[1]} 1 0 0 0", "sum {} 0 0 0 0", "sum {[1]} 1 0 5 5"]:
            self.refuse_thing(text, len(text))
            self.refuse_thing(text + "\n", len(text))
        self.refuse_thing("sum {} 1 1 0 -1", 13)
        self.assertEqual(read_thing("sum {[1]} 1 1 0 0"), BinomialSum(ONE, Fraction(1), choose=1, rise=0, central=0))

    def test_rows(self):
        for text in ["row <> ()", "row <> (1 2)", "row <[1] [1]> ()", "row <[-1] [-1] [1]> (0)", "row <[1] [-3 1]> (1 2 3 4)",
                     "row <[-2 1]> (0 0)", "row <[1] [-100000000 1]> (1 2)"]:
            self.refuse_thing(text, len(text))
            self.refuse_thing(text + ")", len(text))
        self.assertEqual(read_thing("row <[1] [-3 1]> (1 2 3 4 5)").since, 4)
        self.assertEqual(read_thing("row <[-2 1]> (0 0 0)").since, 3)


class ChangedTextsTest(ReadingTest):
    def change(self, source, text):
        for _ in range(source.choice([1, 1, 1, 2, 3])):
            at = source.randrange(len(text) + 1)
            char = source.choice("0123456789-/ ()[]{}<>:xo01")
            text = source.choice([text[:at] + char + text[at:], text[:at] + text[at + 1:],
                                  text[:at] + char + text[at + 1:]])
        return text

    def test_certificates(self):
        source = random.Random(1)
        texts = [text for text in map(write_certificate, CERTIFICATES) if len(text) < 150]
        refused = 0
        for _ in range(4000):
            text = self.change(source, source.choice(texts))
            expected = first_error(CERTIFICATE_FORMS, text)
            if expected is None:
                self.assertEqual(write_certificate(read_certificate(text)), text)
            else:
                self.refuse_certificate(text, expected)
                refused += 1
        self.assertTrue(2500 < refused < 3900)

    def test_things(self):
        source = random.Random(2)
        texts = [text for text in map(write_thing, THINGS) if len(text) < 150]
        refused = 0
        for _ in range(4000):
            text = self.change(source, source.choice(texts))
            expected = first_error(THING_FORMS, text)
            if expected is None:
                # The form is right, so only the thing as a whole may not be allowed.
                try:
                    self.assertEqual(write_thing(read_thing(text)), text)
                except InvalidText as error:
                    self.assertEqual(error.where, len(text))
                    refused += 1
            else:
                self.refuse_thing(text, expected)
                refused += 1
        self.assertTrue(2500 < refused < 3900)


if __name__ == "__main__":
    unittest.main()
