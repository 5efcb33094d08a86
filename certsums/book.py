"""Named things, and what has been shown about them."""

from certsums.binomialsum import BinomialSum
from certsums.checker import accepts_recurrence, accepts_rows, accepts_running
from certsums.errors import DuplicateName, InvalidName, UnknownName, WrongKind
from certsums.row import Row
from certsums.rowbuild import row_by_operator, row_of_term
from certsums.term import Term

LETTERS = "abcdefghijklmnopqrstuvwxyz"
DIGITS = "0123456789"
LONGEST = 20


class Book:
    """Terms, binomial sums and rows under names, and claims about them with accepted certificates."""

    def __init__(self):
        self.things = {}
        self.accepted = []

    def add(self, name, thing):
        """Keeps a Term, a BinomialSum or a Row under a new name."""
        if not _is_name(name):
            raise InvalidName(name)
        if name in self.things:
            raise DuplicateName(name)
        self.things[name] = thing

    def names(self):
        """The names in the order in which they were added."""
        return list(self.things)

    def thing(self, name):
        """What is kept under the name."""
        if name not in self.things:
            raise UnknownName(name)
        return self.things[name]

    def offer_running(self, name, certificate):
        """Offers a certificate for the running sums of a Term; True if it is accepted."""
        self._term(name)
        return self._offer(("running", name, certificate))

    def offer_recurrence(self, name, certificate):
        """Offers a certificate for the recurrence of a BinomialSum; True if it is accepted."""
        if not isinstance(self.thing(name), BinomialSum):
            raise WrongKind(name)
        return self._offer(("recurrence", name, certificate))

    def offer_same(self, first, second, certificate):
        """Offers a certificate for the comparison of two things that have rows; True if it is accepted."""
        things = [(name, self.thing(name)) for name in (first, second)]
        for name, thing in things:
            if isinstance(thing, Term) and thing.start != 0:
                raise WrongKind(name)
        return self._offer(("same", first, second, certificate))

    def claims(self):
        """The accepted claims in the order in which they were accepted."""
        return list(self.accepted)

    def closed(self, name):
        """Whether the running sums of a Term have a closed form: "closed", "open" or "unknown"."""
        self._term(name)
        for claim in self.accepted:
            if claim[0] == "running" and claim[1] == name:
                return claim[2][0]
        return "unknown"

    def same(self, first, second):
        """Whether accepted claims show, perhaps in several steps, that two things have equal values."""
        self.thing(first)
        self.thing(second)
        pairs = [claim[1:3] for claim in self.accepted if claim[0] == "same" and claim[3][0] == "equal"]
        return second in _linked(pairs, first)

    def value(self, name, index):
        """The value of a thing at an index."""
        return self.thing(name).value(index)

    def audit(self):
        """Whether the checker accepts the certificates of all claims again."""
        return all([self._is_accepted(claim) for claim in self.accepted])

    def _term(self, name):
        thing = self.thing(name)
        if not isinstance(thing, Term):
            raise WrongKind(name)
        return thing

    def _offer(self, claim):
        """Keeps a claim if its certificate is accepted."""
        accepted = self._is_accepted(claim)
        if accepted:
            self.accepted.append(claim)
        return accepted

    def _is_accepted(self, claim):
        thing = self.thing(claim[1])
        if claim[0] == "running":
            return accepts_running(thing.ratio, claim[2])
        if claim[0] == "recurrence":
            return accepts_recurrence(thing, claim[2])
        first = self._row(claim[1])
        second = self._row(claim[2])
        return first is not None and second is not None and accepts_rows(first, second, claim[3])

    def _row(self, name):
        """The row of a thing, or None for a BinomialSum without an accepted recurrence."""
        thing = self.thing(name)
        if isinstance(thing, Row):
            return thing
        if isinstance(thing, Term):
            return row_of_term(thing)
        for claim in self.accepted:
            if claim[0] == "recurrence" and claim[1] == name and claim[2][0] == "recurrence":
                return row_by_operator(thing, claim[2][2])
        return None


def _is_name(name):
    if len(name) < 1 or len(name) > LONGEST or name[0] in DIGITS:
        return False
    return all([char in LETTERS or char in DIGITS for char in name])


def _linked(pairs, start):
    """The names that chains of pairs lead to from one name, each as a key with the value True."""
    known = {start: True}
    waiting = [start]
    while len(waiting) > 0:
        name = waiting.pop()
        for first, second in pairs + [(pair[1], pair[0]) for pair in pairs]:
            if first == name and second not in known:
                known[second] = True
                waiting.append(second)
    return known
