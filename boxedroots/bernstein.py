"""Signs of polynomials over boxes, told by their counts there; bounds of roots, and widths between them."""

from itertools import product
from math import comb

from boxedroots.divide import eliminated, rows_of
from boxedroots.errors import Double, NoBox, NoInteger, NoUnknown
from boxedroots.judging import is_bound, is_unknown
from boxedroots.polys import (
    Poly, degree, gathered, number_poly, number_raised, slope, stands_in, top, with_power,
)
from boxedroots.ratios import is_box, ratio
from boxedroots.spreading import shared_bottom, sign_in, spread


def counts_over(poly, box):
    """The dict from tuples of numbers to the counts of a Poly over a box."""
    if not is_box_for(poly, box):
        raise NoBox()
    highs, rows = spread(poly, box)
    whole = 1
    for high, stretch in zip(highs, box):
        whole = whole * number_raised(shared_bottom(stretch)[2], high)
    found = {}
    for place in places_to(highs):
        under = whole
        for high, at in zip(highs, place):
            under = under * comb(high, at)
        found[place] = ratio(rows.get(place, 0), under)
    return found


def places_to(highs):
    """The list of the tuples of numbers up to these."""
    found = [()]
    for high in highs:
        found = [place + (at,) for place, at in product(found, range(high + 1))]
    return found


def is_box_for(poly, thing):
    """Whether a thing is a box with a stretch for each unknown that stands in a Poly."""
    return is_box(thing) and stands_in(len(thing), poly)


def sign_over(poly, box):
    """The sign that all counts of a Poly over a box have, 0 if there is none."""
    if not is_box_for(poly, box):
        raise NoBox()
    return sign_in(poly, box)


def holds_in(poly, k, box, bound):
    """Whether all roots of a Poly of the top k over a box are within a bound, as its counts behind the bound tell."""
    if not is_unknown(k) or top(poly) != k:
        raise NoUnknown()
    if not is_box(box) or len(box) != k:
        raise NoBox()
    if not is_bound(bound):
        raise NoInteger()
    return bounds(poly, k, box, bound)


def bounds(poly, k, box, bound):
    """As holds_in, for what is known to be right."""
    return all([keeps_sign(moved(poly, k, bound, sign), k, box) for sign in (1, -1)])


def moved(poly, k, bound, sign):
    """The Poly with sign (bound + t) in the place of the unknown k, t being written as this unknown."""
    high = degree(poly, k)
    weights = [number_raised(bound, low) for low in range(high + 1)]
    counts = {}
    for powers, count in poly.terms:
        at = powers[k]
        front = count if sign > 0 or at & 1 == 0 else -count
        for low in range(at + 1):
            place = with_power(powers, k, low)
            counts[place] = counts.get(place, 0) + front * comb(at, low) * weights[at - low]
    return gathered(counts)


def keeps_sign(poly, k, box):
    """Whether the counts at powers of the unknown k have the same sign over a box, or are 0, and that at 1 has one."""
    rows = rows_of(poly, k)
    sign = sign_in(rows.get(0, Poly(())), box)
    if sign == 0:
        return False
    return all([sign_in(row, box) == sign for row in rows.values()])


def width_told(poly, bound):
    """A width such that in no stretch so long, within a bound, both a Poly of x alone and its slope are 0."""
    if not stands_in(1, poly):
        raise NoUnknown()
    high = degree(poly, 0)
    if high == 0:
        raise Double()
    below = slope(poly, 0)
    a, b, r = eliminated(poly, below, 0) if high > 1 else (Poly(()), number_poly(1), below)
    if not r.terms:
        raise Double()
    if not is_bound(bound):
        raise NoInteger()
    # At each place the Poly or its slope is at least e, and the slope changes by less than e on so short a way.
    bend = size_within(slope(below, 0), bound)
    return ratio(abs(r.terms[0][1]), (size_within(a, bound) + size_within(b, bound)) * (bend + 1))


def size_within(poly, far):
    """An integer that a Poly of x alone does not exceed, on both sides of 0, so far away from 0."""
    return sum([abs(count) * number_raised(far, powers[0]) for powers, count in poly.terms])
