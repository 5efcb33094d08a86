"""Books as texts."""

from certsums.book import Book
from certsums.errors import InvalidText, SummationError
from certsums.reading import read_certificate, read_thing
from certsums.writing import write_certificate, write_thing


def write_book(book):
    """The text of a book: a line for each thing, then a line for each accepted claim."""
    lines = [f"thing {name} {write_thing(book.thing(name))}" for name in book.names()]
    for claim in book.claims():
        lines.append(" ".join(list(claim[:-1]) + [write_certificate(claim[-1])]))
    return "\n".join(lines)


def read_book(text):
    """The book with this text, in which each claim has been offered and accepted."""
    book = Book()
    if text == "":
        return book
    where = 0
    for line in text.split("\n"):
        try:
            taken = _take_line(book, line)
        except SummationError:
            taken = False
        if not taken:
            raise InvalidText(where)
        where = where + len(line) + 1
    return book


def _take_line(book, line):
    """Adds the thing or offers the claim of a line; False if the line has no valid form or the claim is refused."""
    word, _, rest = line.partition(" ")
    if word == "same":
        first, _, rest = rest.partition(" ")
        second, _, form = rest.partition(" ")
        return book.offer_same(first, second, read_certificate(form))
    name, _, form = rest.partition(" ")
    if word == "running":
        return book.offer_running(name, read_certificate(form))
    if word == "recurrence":
        return book.offer_recurrence(name, read_certificate(form))
    if word != "thing" or len(book.claims()) > 0:
        return False
    book.add(name, read_thing(form))
    return True
