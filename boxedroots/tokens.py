"""Texts of polynomials as lists of tokens, if each sign in them can stand where it stands."""

from boxedroots.errors import BadText
from boxedroots.texts import NAMES

FIGURES = "0123456789"
# What may stand next. A sign may stand ahead of a sum; behind a power there is no other power.
AHEAD = "ahead"
FACTOR = "factor"
BEHIND = "behind"
POWER = "power"
BEHIND_POWER = "behind power"


def tokens_of(text):
    """The list of the tokens of a text: strings of figures, the names of unknowns, and the signs +-*^()."""
    found = []
    awaited, deep, at = AHEAD, 0, 0
    while at < len(text):
        sign = text[at]
        if sign == " ":
            at += 1
            continue
        word = figures_at(text, at) if sign in FIGURES else sign
        deep += (sign == "(") - (sign == ")")
        awaited = next_awaited(awaited, sign)
        if awaited is None or deep < 0:
            raise BadText(at)
        found.append(word)
        at += len(word)
    if deep > 0 or awaited not in (BEHIND, BEHIND_POWER):
        raise BadText(len(text))
    return found


def figures_at(text, at):
    """The figures that stand at a place, as many as there are."""
    end = at
    while end < len(text) and text[end] in FIGURES:
        end += 1
    return text[at:end]


def next_awaited(awaited, sign):
    """What may stand behind a sign, None if it cannot stand where so much is awaited."""
    if awaited == POWER:
        return BEHIND_POWER if sign in FIGURES else None
    if awaited in (BEHIND, BEHIND_POWER):
        if sign == "^":
            return POWER if awaited == BEHIND else None
        if sign == ")":
            return BEHIND
        return FACTOR if sign in "+-*" else None
    if sign in FIGURES or sign in NAMES:
        return BEHIND
    if sign == "(":
        return AHEAD
    return FACTOR if awaited == AHEAD and sign in "+-" else None
