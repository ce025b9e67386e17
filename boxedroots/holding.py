"""Chains in the ideal of a base by degree, where there is no end of the products that it does not reduce.

Of how the chain looks one learns by giving some unknowns values that nothing hangs on. If these values are unlucky,
no chain is told, or one that does not serve, and other means are called for.
"""

from itertools import product

from boxedroots.bases import complete
from boxedroots.common import content_beside, number_in, primitive
from boxedroots.orders import BY_DEGREE, bounded_by, key_of
from boxedroots.polys import degree, minus, number_poly, top, unknown_poly
from boxedroots.staircase import Echelon, Stairs, base_by_tops, sum_of_keys
from boxedroots.working import Work

# What the unknowns that stay free are held at.
VALUES = (1009, 2003, 3001)
# No chain is looked for by more products of powers than so many.
MOST_ROWS = 300


def heights_of(polys, many):
    """The dict from each unknown that is not free to the degree that a chain has by it, None if it is not found."""
    held, free = [], []
    for k in range(many):
        more = held + [minus(unknown_poly(k), number_poly(VALUES[k]))]
        trial = Work(polys + more, [], [])
        complete(trial, BY_DEGREE)
        if not trial.over:
            held = more
            free.append(k)
    trial = Work(polys + held, [], [])
    reducers = complete(trial, BY_DEGREE)
    if trial.over or not bounded_by(many, BY_DEGREE, [reducer.lead for reducer in reducers]):
        return None
    heights = {}
    for poly in base_by_tops(many, reducers):
        k = top(poly)
        if k not in free:
            heights[k] = min(degree(poly, k), heights.get(k, degree(poly, k)))
    return heights


def generic_chain(polys, reducers, many):
    """A list of Polys of the ideal by rising tops, by which it is likely all of it leaves no remainder, or None."""
    heights = heights_of(polys, many)
    if heights is None:
        return None
    chain = []
    for k in sorted(heights):
        fitting = [poly for poly in polys if top(poly) == k and fits(poly, k, heights)]
        poly = fitting[0] if fitting else sought(k, heights, reducers, k + 1, many)
        if poly is None or top(poly) != k:
            return None
        chain.append(poly)
    return chain


def generic_multiple(polys, reducers, many):
    """The pair of a Poly of the ideal and a factor of it in free unknowns alone, None if none is found.

    That is where parts of the ideal that have no such unknowns free are in the way of a chain.
    """
    heights = heights_of(polys, many)
    if heights is None:
        return None
    for k in sorted(heights):
        poly = sought(k, heights, reducers, many, many)
        if poly is None:
            return None
        factor = primitive(content_beside(poly, [low for low in heights if low <= k]))
        if number_in(factor) is None:
            return (poly, factor)
    return None


def fits(poly, k, heights):
    """Whether a Poly has the height by an unknown, and lesser ones by those below."""
    return all([degree(poly, low) < heights[low] + (low == k) for low in heights if low <= k])


def sought(k, heights, reducers, below, many):
    """A Poly of the ideal, of the heights up to k, in free unknowns below a number, of the least degree in all.

    None if none is found.
    """
    stairs = Stairs(many, reducers)
    echelon = Echelon()
    rows = {}
    high = 0
    ahead = [()]
    while ahead and len(rows) <= MOST_ROWS:
        ahead = powers_within(k, heights, below, high)
        for powers in ahead:
            key = key_of(BY_DEGREE, powers)
            rows[key] = stairs.row_behind(key, powers, rows)
            counts = echelon.sum_to_nought(key, rows[key][0])
            if counts is not None:
                return sum_of_keys(BY_DEGREE, counts, rows)
        high += 1
    return None


def powers_within(k, heights, below, high):
    """The list of the powers, as high in all, within the heights up to k, of unknowns below a number."""
    mosts = [0, 0, 0]
    for low in range(below):
        if low not in heights:
            mosts[low] = high
        elif low <= k:
            mosts[low] = min(high, heights[low] - (low < k))
    ranges = [list(range(most + 1)) for most in mosts]
    return [powers + (0,) for powers in product(ranges[0], ranges[1], ranges[2]) if sum(powers) == high]
