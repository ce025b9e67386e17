"""What polynomials come to at the roots of a regular finite chain: lines that are 0 at just these values."""

from math import gcd, lcm

from boxedroots.common import number_in
from boxedroots.normals import normal_over
from boxedroots.numbers import number_within
from boxedroots.orders import BY_TOPS
from boxedroots.narrowing import narrower
from boxedroots.polys import lead, top
from boxedroots.reducing import Reducer, counts_of, remainder_of
from boxedroots.spreading import range_in
from boxedroots.staircase import Echelon


def normal_chain(chain):
    """The chain with integers as leading counts, which has the same roots."""
    found = ()
    for poly in chain:
        if number_in(lead(poly, top(poly))) is None:
            poly = normal_over(found, poly)[0]
        found = found + (poly,)
    return found


def values_line(chain, poly):
    """The line without double roots that is 0 at just what a Poly comes to at the roots of a regular finite chain.

    The powers of the Poly are written by as many products of powers as there are roots, until a sum of some is 0.
    """
    reducers = [Reducer(at, BY_TOPS, other) for at, other in enumerate(normal_chain(chain))]
    front, bottom = rest_by(counts_of(BY_TOPS, poly), reducers)
    places, echelon, unders = {}, Echelon(), []
    here, under = {0: 1}, 1
    while True:
        for key in here:
            places.setdefault(key, len(places))
        row = [0] * len(places)
        for key, count in here.items():
            row[places[key]] = count
        counts = echelon.sum_to_nought(len(unders), row)
        unders.append(under)
        if counts is not None:
            return without_content([counts.get(at, 0) * weight for at, weight in enumerate(unders)])
        here, under = product_rest(here, front, under * bottom, reducers)


def without_content(line):
    """The line without the integer that divides all of it."""
    shared = 0
    for count in line:
        shared = gcd(shared, count)
    return [count // shared for count in line]


def product_rest(one, other, under, reducers):
    """As rest_by, of the product of two dicts over an integer."""
    counts = {}
    for key, count in one.items():
        for step, many in other.items():
            counts[key + step] = counts.get(key + step, 0) + count * many
    found, more = rest_by(counts, reducers)
    shared = under * more
    for count in found.values():
        shared = gcd(shared, count)
    return {key: count // shared for key, count in found.items()}, under * more // shared


def rest_by(counts, reducers):
    """The remainder of a dict from keys to counts: such a dict, and the integer above 0 that it is over."""
    rest = remainder_of(counts, reducers).rest
    many = 1
    for _, _, under in rest:
        many = lcm(many, under)
    return {key: over * (many // under) for key, over, under in rest}, many


def value_at(chain, box, poly):
    """The Number that a Poly comes to at the one root of a regular finite chain in a box."""
    highest = top(poly)
    many = 0 if highest is None else highest + 1
    chain, box = chain[:many], box[:many]
    line = values_line(chain, poly)
    while True:
        low, high = range_in(poly, box)
        number = number_within(line, low, high)
        if number is not None:
            return number
        box = narrower(chain, box)
