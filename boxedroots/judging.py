"""What an integer, a number, a bound, an unknown, a fraction and a point are."""

from math import gcd

UNKNOWNS = 4


def is_integer(thing):
    """Whether a thing is an int that is no flag."""
    return isinstance(thing, int) and not isinstance(thing, bool)


def is_number_to(most, thing):
    """Whether a thing is an integer from 0 to the most."""
    return is_integer(thing) and 0 <= thing <= most


def is_bound(thing):
    """Whether a thing is an integer from 1 on."""
    return is_integer(thing) and thing >= 1


def is_unknown(thing):
    """Whether a thing is the number of an unknown."""
    return is_number_to(UNKNOWNS - 1, thing)


def is_fraction(thing):
    """Whether a thing is a pair of integers in lowest terms, the second one above 0."""
    if not isinstance(thing, tuple) or len(thing) != 2:
        return False
    over, under = thing
    return is_integer(over) and is_integer(under) and under > 0 and gcd(over, under) == 1


def is_point(many, thing):
    """Whether a thing is a tuple of so many fractions."""
    return isinstance(thing, tuple) and len(thing) == many and all([is_fraction(place) for place in thing])
