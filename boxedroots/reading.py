"""Polynomials and systems read from texts."""

from boxedroots.errors import BadLine, BadText
from boxedroots.judging import UNKNOWNS
from boxedroots.polys import MOST_POWER, MOST_TERMS, degree, gathered, minus, number_poly, times, unknown_poly
from boxedroots.systems import System
from boxedroots.texts import NAMES
from boxedroots.tokens import FIGURES, tokens_of

MOST_FIGURES = 30
MOST_DEEP = 20
GREAT = "great"
HEADING = "unknowns "


class Sum:
    """A sum that is being read: the counts of the terms so far, and the product of the term that is being read.

    sign is the one ahead of this term.
    """

    def __init__(self):
        self.counts = {}
        self.product = None
        self.sign = "+"

    def put_factor(self, poly):
        """Multiply the term that is being read by a factor."""
        self.product = poly if self.product is None else fitting(times(self.product, poly))

    def end_term(self, sign):
        """Add the term that has been read, if any has, and begin one with this sign ahead."""
        if self.product is not None:
            for powers, count in self.product.terms:
                whole = self.counts.get(powers, 0) + (count if self.sign == "+" else -count)
                if whole == 0:
                    self.counts.pop(powers)
                else:
                    self.counts[powers] = whole
            if len(self.counts) > MOST_TERMS:
                raise BadText(GREAT)
        self.product = None
        self.sign = sign

    def closed(self):
        """The Poly of the sum, which ends here."""
        self.end_term("+")
        return gathered(self.counts)


def fitting(poly):
    """The Poly, which is not too great."""
    if len(poly.terms) > MOST_TERMS or max([degree(poly, k) for k in range(UNKNOWNS)]) > MOST_POWER:
        raise BadText(GREAT)
    return poly


def read_poly(text):
    """The Poly that a text tells."""
    if not isinstance(text, str):
        raise BadText(-1)
    tokens = tokens_of(text)
    refuse_great(tokens)
    here, around = Sum(), []
    at = 0
    while at < len(tokens):
        word = tokens[at]
        at += 1
        if word == "(":
            around.append(here)
            here = Sum()
        elif word in ("+", "-"):
            here.end_term(word)
        elif word != "*":
            if word == ")":
                poly, here = here.closed(), around.pop()
            else:
                poly = factor_of(word)
            if tokens[at:at + 1] == ["^"]:
                poly = powered(poly, int(tokens[at + 1]))
                at += 2
            here.put_factor(poly)
    return here.closed()


def factor_of(word):
    """The Poly of figures or of the name of an unknown."""
    return number_poly(int(word)) if word[0] in FIGURES else unknown_poly(NAMES.index(word))


def powered(poly, many):
    """The Poly so many times as a factor, which is not too great on the way either."""
    found = number_poly(1)
    for _ in range(many):
        found = fitting(times(found, poly))
    return found


def refuse_great(tokens):
    """Refuse tokens with too great a number, a power or brackets too deep."""
    deep = 0
    for at, word in enumerate(tokens):
        deep += (word == "(") - (word == ")")
        if deep > MOST_DEEP or len(word) > MOST_FIGURES:
            raise BadText(GREAT)
        if at > 0 and tokens[at - 1] == "^" and int(word) > MOST_POWER:
            raise BadText(GREAT)


def read_system(text):
    """The System that a text tells."""
    if not isinstance(text, str):
        raise BadLine(0)
    lines = text.split("\n")
    many = heading_of(lines[0]) if len(lines) > 1 else None
    if many is None:
        raise BadLine(1)
    equations, barred = [], []
    for at in range(1, len(lines)):
        if at == len(lines) - 1 and not lines[at]:
            break
        told = relation_of(lines[at])
        # What stands behind the last line feed is no line, whatever it is.
        if told is None or at == len(lines) - 1:
            raise BadLine(at + 1)
        if told[1]:
            barred.append(told[0])
        else:
            equations.append(told[0])
    return System(many, tuple(equations), tuple(barred))


def heading_of(line):
    """The number of unknowns that the first line tells, None if it has not its form."""
    if not line.startswith(HEADING):
        return None
    return plain_number(line[len(HEADING):], MOST_FIGURES)


def plain_number(word, most):
    """The number that figures tell, at most so many, without needless noughts; None for other strings."""
    if not word or len(word) > most or any([sign not in FIGURES for sign in word]):
        return None
    return None if word[0] == "0" and len(word) > 1 else int(word)


def relation_of(line):
    """The pair of a Poly and a flag that tells whether it is barred, None if a line has not the form."""
    at = line.find("=")
    if at < 0:
        return None
    is_barred = line[:at].endswith("!")
    try:
        left = read_poly(line[:at - 1] if is_barred else line[:at])
        right = read_poly(line[at + 1:])
    except BadText:
        return None
    return minus(left, right), is_barred
