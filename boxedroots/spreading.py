"""Polynomials over boxes: their counts, times the binomials and powers that make them integers, and their signs."""

from math import comb, lcm

from boxedroots.packing import greatest_powers
from boxedroots.polys import gathered, number_raised, with_power
from boxedroots.ratios import greatest_of, least_of, ratio


def spread(poly, box):
    """The pair of the degrees by the unknowns of a box, and of the dict from tuples of numbers to integers.

    Each integer is the count there, times its binomials, times the power of each stretch's shared bottom by the degree;
    what is 0 may be left out.
    """
    many = len(box)
    highs = greatest_powers(poly.terms)[:many]
    rows = {powers[:many]: count for powers, count in poly.terms}
    for k, high in enumerate(highs):
        if high > 0:
            rows = spread_by(rows, k, high, box[k])
    return highs, rows


def shared_bottom(stretch):
    """The triple of integers (low, high, under) such that low and high over under are the ends of a stretch."""
    (low, one), (high, other) = stretch
    under = lcm(one, other)
    return (low * (under // one), high * (under // other), under)


def spread_by(rows, k, high, stretch):
    """The rows with powers of the unknown k, up to the degree high, replaced by numbers of counts over a stretch."""
    low, top, under = shared_bottom(stretch)
    wholes = [[1]]
    for _ in range(high):
        wholes.append(times_line(wholes[-1], under, under))
    lines = {}
    for powers, count in rows.items():
        rest = powers[:k] + powers[k + 1:]
        if rest not in lines:
            lines[rest] = [0] * (high + 1)
        lines[rest][powers[k]] = count
    found = {}
    for rest, line in lines.items():
        for at, count in enumerate(turned(line, low, top, wholes)):
            found[rest[:k] + (at,) + rest[k:]] = count
    return found


def times_line(line, low, high):
    """The counts of a sum by powers of s and 1 - s, times low (1 - s) + high s."""
    found = [count * low for count in line] + [0]
    for at, count in enumerate(line):
        found[at + 1] += count * high
    return found


def turned(line, low, high, wholes):
    """The counts by powers of s and 1 - s of a line of counts by powers, wholes being the powers of the bottom."""
    found = [line[-1]]
    for at in range(len(line) - 2, -1, -1):
        found = times_line(found, low, high)
        if line[at] != 0:
            found = [count + line[at] * whole for count, whole in zip(found, wholes[len(line) - 1 - at])]
    return found


def sign_in(poly, box):
    """As sign_over, for what is known to be a box for the Poly."""
    highs, rows = spread(poly, box)
    many = 1
    for high in highs:
        many = many * (high + 1)
    if len(rows) < many:
        return 0
    counts = list(rows.values())
    if all([count > 0 for count in counts]):
        return 1
    return -1 if all([count < 0 for count in counts]) else 0


def range_in(poly, box):
    """The pair of the least and the greatest count of a Poly over a box: what it comes to there is between them."""
    highs, rows = spread(poly, box)
    whole, many = 1, 1
    for high, stretch in zip(highs, box):
        whole = whole * number_raised(shared_bottom(stretch)[2], high)
        many = many * (high + 1)
    places = [ratio(0, 1)] if len(rows) < many else []
    for place, count in rows.items():
        under = whole
        for high, at in zip(highs, place):
            under = under * comb(high, at)
        places.append(ratio(count, under))
    low = high = places[0]
    for place in places:
        low, high = least_of(low, place), greatest_of(high, place)
    return (low, high)


def placed(poly, k, place):
    """The Poly with a fraction in the place of an unknown, times its bottom to the degree."""
    over, under = place
    high = max([powers[k] for powers, _ in poly.terms], default=0)
    weights = [number_raised(over, low) * number_raised(under, high - low) for low in range(high + 1)]
    counts = {}
    for powers, count in poly.terms:
        rest = with_power(powers, k, 0)
        counts[rest] = counts.get(rest, 0) + count * weights[powers[k]]
    return gathered(counts)
