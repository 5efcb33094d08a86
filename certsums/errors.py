"""The errors that the program raises."""


class SummationError(ValueError):
    """The base class of all errors of the program."""


class DivisionByZero(SummationError):
    """A denominator or a divisor is zero."""


class ZeroPolynomial(SummationError):
    """A polynomial that must not be zero is zero."""


class InvalidTerm(SummationError):
    """The given parts do not make a term."""


class InvalidSum(SummationError):
    """The given parts do not make a binomial sum."""


class InvalidRow(SummationError):
    """The given parts do not make a row."""


class Pole(SummationError):
    """A quotient has no value at the number `where`."""

    def __init__(self, where):
        super().__init__("the denominator is zero at this number")
        self.where = where


class InvalidText(SummationError):
    """A text is not a written form; `where` is the index of the error."""

    def __init__(self, where):
        super().__init__(f"the text is not valid at index {where}")
        self.where = where


class BeforeStart(SummationError):
    """The number `index` is less than the start of a term."""

    def __init__(self, index):
        super().__init__("the index is less than the start of the term")
        self.index = index


class InvalidName(SummationError):
    """The string `name` is not a name for a thing."""

    def __init__(self, name):
        super().__init__(f"not a name: {name}")
        self.name = name


class DuplicateName(SummationError):
    """The book has a thing called `name` already."""

    def __init__(self, name):
        super().__init__(f"the name is taken: {name}")
        self.name = name


class UnknownName(SummationError):
    """The book has no thing called `name`."""

    def __init__(self, name):
        super().__init__(f"no thing has the name: {name}")
        self.name = name


class WrongKind(SummationError):
    """The thing called `name` is of another kind than is needed."""

    def __init__(self, name):
        super().__init__(f"the thing is of the wrong kind: {name}")
        self.name = name
