"""Terms that are made from simpler things."""

from certsums.counting import factorial
from certsums.errors import InvalidTerm
from certsums.fraction import Fraction
from certsums.margin import roots_from
from certsums.poly import Poly
from certsums.quotient import Quotient
from certsums.term import Term


def power_term(base, start):
    """The term base ** k."""
    if base.is_zero:
        raise InvalidTerm("the powers of zero are no term")
    return Term(start, base.power(start), Quotient.whole(Poly.constant(base)))


def factorial_term(offset, start):
    """The term (k + offset)!."""
    if start + offset < 0:
        raise InvalidTerm("a negative number has no factorial")
    return Term(start, Fraction(factorial(start + offset)), Quotient.whole(Poly.line(1, offset + 1)))


def quotient_term(y, start):
    """The term y(k) of a quotient."""
    if y.is_zero:
        raise InvalidTerm("the zero quotient is no term")
    if len(roots_from(y.num, start=start)) > 0 or len(roots_from(y.den, start=start)) > 0:
        raise InvalidTerm("the quotient has a zero or a pole behind the start")
    return Term(start, y.at(start), y.shifted(1).over(y))


def difference_term(term):
    """The term T(k + 1) - T(k) of a term T."""
    growth = term.ratio - Quotient.whole(Poly([1]))
    return term.times(quotient_term(growth, term.start))
