"""Polynomials with integer counts in the unknowns x, y, z and w."""

from math import gcd

from boxedroots.errors import BadPoly, NoInteger, NoNumber, NoPoint, NoUnknown
from boxedroots.judging import UNKNOWNS, is_integer, is_number_to, is_point, is_unknown
from boxedroots.packing import greatest_powers, product_terms, scaled_terms

MOST_TERMS = 300
MOST_POWER = 60
NO_POWERS = (0, 0, 0, 0)


class Poly:
    """A polynomial: the tuple of its terms (powers, count), ascending by their powers."""

    def __init__(self, terms):
        if not isinstance(terms, tuple) or len(terms) > MOST_TERMS:
            raise BadPoly(-1)
        for index, term in enumerate(terms):
            if not is_term(term) or (index > 0 and term[0] <= terms[index - 1][0]):
                raise BadPoly(index)
        self.terms = terms

    def __eq__(self, other):
        return isinstance(other, Poly) and self.terms == other.terms


def is_term(thing):
    """Whether a thing is a pair (powers, count) as it may stand in a Poly that is made by hand."""
    if not isinstance(thing, tuple) or len(thing) != 2:
        return False
    powers, count = thing
    return is_powers(powers) and is_integer(count) and count != 0


def is_powers(thing):
    """Whether a thing is a tuple of a power for each unknown, none of them too great."""
    if not isinstance(thing, tuple) or len(thing) != UNKNOWNS:
        return False
    return all([is_number_to(MOST_POWER, high) for high in thing])


def poly_with(terms):
    """The Poly with these terms, which are in order, but may be more and greater than by hand."""
    poly = Poly(())
    poly.terms = terms
    return poly


def gathered(counts):
    """The Poly with the counts that a dict tells for powers; some may be 0."""
    return poly_with(tuple([(powers, counts[powers]) for powers in sorted(counts) if counts[powers] != 0]))


def number_poly(number):
    """The Poly of an integer."""
    if not is_integer(number):
        raise NoInteger()
    return gathered({NO_POWERS: number})


def unknown_poly(k):
    """The Poly of an unknown."""
    if not is_unknown(k):
        raise NoUnknown()
    return poly_with(((with_power(NO_POWERS, k, 1), 1),))


def with_power(powers, k, high):
    """The powers with another one for an unknown."""
    return powers[:k] + (high,) + powers[k + 1:]


def plus(one, other):
    """The sum of two Polys."""
    return added(one, other, 1)


def minus(one, other):
    """The first Poly less the second one."""
    return added(one, other, -1)


def added(one, other, many):
    """The sum of a Poly and of so many times another one."""
    counts = {powers: count for powers, count in one.terms}
    for powers, count in other.terms:
        counts[powers] = counts.get(powers, 0) + many * count
    return gathered(counts)


def times(one, other):
    """The product of two Polys."""
    return poly_with(product_terms(one.terms, other.terms))


def scaled(poly, number):
    """The Poly times an integer other than 0."""
    return poly_with(scaled_terms(poly.terms, NO_POWERS, number))


def power(poly, many):
    """The Poly so many times as a factor."""
    if not is_number_to(MOST_POWER, many):
        raise NoNumber()
    return raised(poly, many)


def raised(poly, many):
    """The Poly so many times as a factor, many being any number."""
    if len(poly.terms) == 1:
        powers, count = poly.terms[0]
        return poly_with(((tuple([high * many for high in powers]), number_raised(count, many)),))
    # One factor after another: squaring a result of many terms costs more than many short products.
    found = number_poly(1)
    for _ in range(many):
        found = times(found, poly)
    return found


def number_raised(base, many):
    """An integer so many times as a factor."""
    found = 1
    for bit in f"{many:b}":
        found = found * found
        if bit == "1":
            found = found * base
    return found


def top(poly):
    """The greatest unknown that stands in a Poly, None if there is none."""
    found = None
    for k, high in enumerate(greatest_powers(poly.terms)):
        if high > 0:
            found = k
    return found


def degree(poly, k):
    """The greatest power of an unknown in a Poly."""
    if not is_unknown(k):
        raise NoUnknown()
    return max([powers[k] for powers, _ in poly.terms], default=0)


def lead(poly, k):
    """The Poly, without an unknown, that stands at its greatest power in a Poly."""
    high = degree(poly, k)
    return poly_with(tuple([(with_power(powers, k, 0), count) for powers, count in poly.terms if powers[k] == high]))


def slope(poly, k):
    """The slope of a Poly by an unknown."""
    if not is_unknown(k):
        raise NoUnknown()
    return poly_with(tuple([
        (with_power(powers, k, powers[k] - 1), count * powers[k]) for powers, count in poly.terms if powers[k] > 0
    ]))


def exchanged(poly, k, l):
    """The Poly with two unknowns exchanged."""
    if not is_unknown(k) or not is_unknown(l):
        raise NoUnknown()
    return gathered({
        with_power(with_power(powers, k, powers[l]), l, powers[k]): count for powers, count in poly.terms
    })


def worth(poly, point):
    """The fraction that a Poly comes to at a quadruple of fractions."""
    if not is_point(UNKNOWNS, point):
        raise NoPoint()
    highs = greatest_powers(poly.terms)
    weights = [weights_of(poly, k, highs[k], point[k]) for k in range(UNKNOWNS)]
    over = 0
    for powers, count in poly.terms:
        part = count
        for k, high in enumerate(powers):
            part = part * weights[k][high]
        over += part
    under = 1
    for k, high in enumerate(highs):
        under = under * number_raised(point[k][1], high)
    shared = gcd(over, under)
    return (over // shared, under // shared)


def weights_of(poly, k, most, place):
    """The dict from each power of an unknown to its worth at a fraction, times its bottom to the greatest power."""
    over, under = place
    return {
        high: number_raised(over, high) * number_raised(under, most - high)
        for high in sorted({powers[k] for powers, _ in poly.terms})
    }


def stands_in(many, thing):
    """Whether a thing is a Poly in the unknowns that are numbered below many."""
    if not isinstance(thing, Poly):
        return False
    highest = top(thing)
    return highest is None or highest < many
