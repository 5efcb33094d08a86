"""The written form of certificates, terms, binomial sums and rows."""

from certsums.binomialsum import BinomialSum
from certsums.intlists import decimal
from certsums.term import Term


def write_certificate(certificate):
    """The text of a certificate in which the order and the index are at least 0."""
    return " ".join([certificate[0]] + _parts_of_certificate(certificate))


def _parts_of_certificate(certificate):
    kind = certificate[0]
    if kind == "closed":
        return [_quotient(certificate[1])]
    if kind == "open":
        _, a, b, c, u, v, w, f = certificate
        return [_poly(a), _poly(b), _poly(c), _poly2(u), _poly2(v), _poly(w), _list(f)]
    if kind == "recurrence":
        _, order, operator, m = certificate
        return [decimal(order), _operator(operator), _poly2(m)]
    if kind == "none":
        _, order, n, inverse = certificate
        return [decimal(order), decimal(n), _matrix(inverse)]
    if kind == "equal":
        _, left, right = certificate
        return [_operator(left), _operator(right)]
    return [decimal(certificate[1])]


def write_thing(thing):
    """The text of a Term, a BinomialSum or a Row."""
    if isinstance(thing, Term):
        parts = ["term", decimal(thing.start), _fraction(thing.first), _quotient(thing.ratio)]
    elif isinstance(thing, BinomialSum):
        counts = [decimal(thing.choose), decimal(thing.rise), decimal(thing.central)]
        parts = ["sum", _poly2(thing.weight), _fraction(thing.base)] + counts
    else:
        parts = ["row", _operator(thing.operator), _list(thing.initial)]
    return " ".join(parts)


def _fraction(x):
    if x.is_whole:
        return decimal(x.num)
    return decimal(x.num) + "/" + decimal(x.den)


def _list(fractions):
    return "(" + " ".join([_fraction(x) for x in fractions]) + ")"


def _matrix(rows):
    return "(" + " ".join([_list(row) for row in rows]) + ")"


def _poly(p):
    return "[" + " ".join([_fraction(p.coefficient(i)) for i in range(p.degree + 1)]) + "]"


def _poly2(p):
    return "{" + " ".join([_poly(row) for row in p.rows]) + "}"


def _operator(operator):
    return "<" + " ".join([_poly(coef) for coef in operator.coefs]) + ">"


def _quotient(y):
    return _poly(y.num) + ":" + _poly(y.den)
