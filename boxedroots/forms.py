"""The forms of the lines that a desk takes, and what stands in them."""

from boxedroots.errors import BadText
from boxedroots.reading import plain_number, read_poly, relation_of

LETTERS = "abcdefghijklmnopqrstuvwxyz"
MOST_LETTERS = 8
MOST_FIGURES = 3
PUT = ":"
# What stands behind the first word of a line.
FORMS = {
    "let": ("name", "number"),
    "show": ("name",),
    "count": ("name",),
    "real": ("name",),
    "root": ("name", "number"),
    "sign": ("name", "number", "poly"),
    "zero": ("name", "poly"),
    "same": ("name", "name"),
    "drop": ("name",),
}


def parts_of(line):
    """The pair of the first word of a line and the list of its parts, None if it has none of the forms.

    Of a line that puts a polynomial in these are PUT and the name, the Poly, and whether it is barred.
    """
    if not isinstance(line, str):
        return None
    first, _, rest = line.partition(" ")
    if is_name(first) and rest.startswith(": "):
        told = relation_of(rest[2:])
        return None if told is None else (PUT, [first, told[0], told[1]])
    if first not in FORMS:
        return None
    kinds = FORMS[first]
    words = rest.split(" ", len(kinds) - 1)
    if len(words) != len(kinds):
        return None
    parts = [part_of(kind, word) for kind, word in zip(kinds, words)]
    return None if any([part is None for part in parts]) else (first, parts)


def part_of(kind, word):
    """What a word tells as a part of this kind, None if it is none."""
    if kind == "name":
        return word if is_name(word) else None
    if kind == "number":
        return plain_number(word, MOST_FIGURES)
    try:
        return read_poly(word)
    except BadText:
        return None


def is_name(word):
    """Whether a word is the name of a system."""
    return 1 <= len(word) <= MOST_LETTERS and all([letter in LETTERS for letter in word])
