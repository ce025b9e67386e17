"""Reckoning with fractions as pairs (top, bottom), and stretches and boxes of them."""

from math import gcd

from boxedroots.judging import is_fraction

MOST_STRETCHES = 3


def ratio(over, under):
    """The fraction of two integers, the second one not 0."""
    shared = gcd(over, under) if under > 0 else -gcd(over, under)
    return (over // shared, under // shared)


def is_less(one, other):
    """Whether a fraction is below another one."""
    return one[0] * other[1] < other[0] * one[1]


def least_of(one, other):
    """The lesser one of two fractions."""
    return one if is_less(one, other) else other


def greatest_of(one, other):
    """The greater one of two fractions."""
    return other if is_less(one, other) else one


def ratio_plus(one, other):
    """The sum of two fractions."""
    return ratio(one[0] * other[1] + other[0] * one[1], one[1] * other[1])


def ratio_minus(one, other):
    """The first fraction less the second one."""
    return ratio(one[0] * other[1] - other[0] * one[1], one[1] * other[1])


def ratio_times(one, other):
    """The product of two fractions."""
    return ratio(one[0] * other[0], one[1] * other[1])


def between(low, high, over, under):
    """The fraction that lies at this part, over by under, of the way from one to another."""
    step = ratio_minus(high, low)
    return ratio_plus(low, ratio(step[0] * over, step[1] * under))


def sign_of_integer(number):
    """The sign of an integer."""
    return (number > 0) - (number < 0)


def length(stretch):
    """How long a stretch is."""
    return ratio_minus(stretch[1], stretch[0])


def is_stretch(thing):
    """Whether a thing is a pair of fractions, the first one below the second one."""
    if not isinstance(thing, tuple) or len(thing) != 2:
        return False
    return is_fraction(thing[0]) and is_fraction(thing[1]) and is_less(thing[0], thing[1])


def is_box(thing):
    """Whether a thing is a tuple of at most three stretches."""
    return isinstance(thing, tuple) and len(thing) <= MOST_STRETCHES and all([is_stretch(part) for part in thing])
