"""Certificates, terms, binomial sums and rows from their written forms."""

from math import gcd

from certsums.binomialsum import BinomialSum
from certsums.errors import InvalidRow, InvalidSum, InvalidTerm, InvalidText
from certsums.fraction import Fraction
from certsums.intlists import from_digits
from certsums.operator import Operator
from certsums.poly import from_fractions
from certsums.poly2 import Poly2
from certsums.quotient import Quotient
from certsums.row import Row
from certsums.term import Term

# No two words of one of these lists begin with the same letter.
CERTIFICATES = ("closed", "open", "recurrence", "none", "equal", "different")
THINGS = ("term", "sum", "row")


class Reader:
    """A text, and the index of its first character that is not read yet."""

    def __init__(self, text):
        self.text = text
        self.place = 0

    def sees(self, char):
        """Whether this is the next character."""
        return self.text[self.place:self.place + 1] == char

    def skip(self, chars):
        """Reads characters that must come next."""
        for char in chars:
            if not self.sees(char):
                raise InvalidText(self.place)
            self.place = self.place + 1

    def digits(self):
        """Reads the digits that come next, of which there must be one."""
        start = self.place
        while self.place < len(self.text) and self.text[self.place] in "0123456789":
            self.place = self.place + 1
        if self.place == start:
            raise InvalidText(start)
        return self.text[start:self.place]

    def word(self, words):
        """Reads one of the words and the space behind it."""
        for word in words:
            if self.sees(word[0]):
                self.skip(word + " ")
                return word
        raise InvalidText(self.place)


def read_certificate(text):
    """The certificate with this written form."""
    reader = Reader(text)
    kind = reader.word(CERTIFICATES)
    parts = _parts(reader, _part_readers(kind))
    _refuse_rest(reader)
    return (kind,) + tuple(parts)


def _part_readers(kind):
    """The functions that read the parts of a certificate."""
    if kind == "closed":
        return [_quotient]
    if kind == "open":
        return [_poly, _poly, _poly, _poly2, _poly2, _poly, _fractions]
    if kind == "recurrence":
        return [_natural, _operator, _poly2]
    if kind == "none":
        return [_natural, _signed, _matrix]
    if kind == "equal":
        return [_operator, _operator]
    return [_natural]


def read_thing(text):
    """The Term, BinomialSum or Row with this written form."""
    reader = Reader(text)
    kind = reader.word(THINGS)
    if kind == "term":
        thing = _term(reader)
    elif kind == "sum":
        thing = _binomial_sum(reader)
    else:
        thing = _row(reader)
    _refuse_rest(reader)
    return thing


def _term(reader):
    start, first, ratio = _parts(reader, [_signed, _fraction, _quotient])
    try:
        return Term(start, first, ratio)
    except InvalidTerm:
        raise InvalidText(reader.place) from None


def _binomial_sum(reader):
    weight, base, choose, rise, central = _parts(reader, [_poly2, _fraction, _natural, _natural, _natural])
    try:
        return BinomialSum(weight, base, choose=choose, rise=rise, central=central)
    except InvalidSum:
        raise InvalidText(reader.place) from None


def _row(reader):
    operator, initial = _parts(reader, [_operator, _fractions])
    try:
        return Row(operator, initial)
    except InvalidRow:
        raise InvalidText(reader.place) from None


def _refuse_rest(reader):
    if reader.place < len(reader.text):
        raise InvalidText(reader.place)


def _parts(reader, part_readers):
    """The parts that these functions read, with spaces between them."""
    found = []
    for part_reader in part_readers:
        if len(found) > 0:
            reader.skip(" ")
        found.append(part_reader(reader))
    return found


def _list(reader, first, last, part_reader):
    """The list of the parts between two signs, with spaces between them."""
    found = []
    reader.skip(first)
    while not reader.sees(last):
        if len(found) > 0:
            reader.skip(" ")
        found.append(part_reader(reader))
    reader.skip(last)
    return found


def _positive(reader):
    """A number without a sign that does not begin with 0."""
    if reader.sees("0"):
        raise InvalidText(reader.place)
    return from_digits(reader.digits())


def _natural(reader):
    if reader.sees("0"):
        # What follows may not be a digit, and nothing that reads on takes one.
        reader.skip("0")
        return 0
    return _positive(reader)


def _signed(reader):
    if reader.sees("-"):
        reader.skip("-")
        return -_positive(reader)
    return _natural(reader)


def _fraction(reader):
    num = _signed(reader)
    if not reader.sees("/"):
        return Fraction(num)
    reader.skip("/")
    den = _positive(reader)
    if den == 1 or gcd(num, den) != 1:
        raise InvalidText(reader.place)
    return Fraction(num, den)


def _fractions(reader):
    return tuple(_list(reader, "(", ")", _fraction))


def _matrix(reader):
    return tuple(_list(reader, "(", ")", _fractions))


def _poly(reader):
    coefs = _list(reader, "[", "]", _fraction)
    if len(coefs) > 0 and coefs[-1].is_zero:
        raise InvalidText(reader.place)
    return from_fractions(coefs)


def _polys(reader, first, last):
    """Polynomials of which the last one is not zero."""
    found = _list(reader, first, last, _poly)
    if len(found) > 0 and found[-1].is_zero:
        raise InvalidText(reader.place)
    return found


def _poly2(reader):
    return Poly2(_polys(reader, "{", "}"))


def _operator(reader):
    return Operator(_polys(reader, "<", ">"))


def _quotient(reader):
    num = _poly(reader)
    reader.skip(":")
    den = _poly(reader)
    if den.is_zero:
        raise InvalidText(reader.place)
    found = Quotient(num, den)
    if found.num != num or found.den != den:
        raise InvalidText(reader.place)
    return found
