"""Dividing one polynomial by another, and eliminating an unknown from two."""

from boxedroots.errors import NoDivisor
from boxedroots.packing import quotient_terms
from boxedroots.polys import (
    Poly, degree, gathered, lead, minus, number_poly, poly_with, raised, scaled, times, with_power,
)


def divided(one, other, k):
    """The triple (h, q, r): lead(other, k) ** h times one is q times other and r."""
    # degree raises NoUnknown, which comes ahead of NoDivisor.
    low = degree(other, k)
    if low == 0:
        raise NoDivisor()
    many = max(0, degree(one, k) - low + 1)
    short, q, r = divided_shortly(one, other, k)
    # Where a power was missing a step was spared, but h does not hang on that.
    factor = raised(lead(other, k), many - short)
    return (many, times(q, factor), times(r, factor))


def divided_shortly(one, other, k):
    """A triple as of divided, but with no greater h than the steps that are done."""
    head = lead(other, k)
    steps, rest = taken_away(rows_of(one, k), rows_of(other, k), degree(other, k))
    fronts = {}
    factor = number_poly(1)
    for at, front in reversed(steps):
        fronts[at] = times(front, factor)
        factor = times(factor, head)
    return (len(steps), poly_of_rows(fronts, k), poly_of_rows(rest, k))


def rows_of(poly, k):
    """The dict from each power of an unknown in a Poly to the Poly, without it, that stands there."""
    rows = {}
    for powers, count in poly.terms:
        rows.setdefault(powers[k], []).append((with_power(powers, k, 0), count))
    return {high: poly_with(tuple(row)) for high, row in rows.items()}


def poly_of_rows(rows, k):
    """The Poly that a dict, as of rows_of, tells of."""
    return gathered({
        with_power(powers, k, high): count for high, row in rows.items() for powers, count in row.terms
    })


def taken_away(rows, divisor, low):
    """The list of steps (power, front), and the rows that are left, of a degree below low.

    Each step multiplies all rows by the head of the divisor, and then takes the divisor, times front, times
    the unknown to this power, away.
    """
    head = divisor[low]
    lower = [(high, row) for high, row in divisor.items() if high != low]
    steps = []
    high = max(list(rows), default=0)
    while high >= low:
        front = rows[high]
        steps.append((high - low, front))
        rest = {at: times(head, row) for at, row in rows.items() if at != high}
        for at, row in lower:
            place = at + high - low
            rest[place] = minus(rest.get(place, Poly(())), times(front, row))
        rows = {at: row for at, row in rest.items() if row.terms}
        high = max(list(rows), default=0)
    return steps, rows


def exact(one, other):
    """The quotient of two Polys, the second of which divides the first."""
    return poly_with(quotient_terms(one.terms, other.terms))


def eliminated(one, other, k):
    """The triple (a, b, r): a times one and b times other come to r, the determinant of both's table."""
    # degree raises NoUnknown, which comes ahead of NoDivisor.
    high, low = degree(one, k), degree(other, k)
    if high == 0 or low == 0:
        raise NoDivisor()
    if high >= low:
        return chained(one, other, k)
    b, a, r = chained(other, one, k)
    # So many exchanges of two rows bring the rows of the one ahead of those of the other.
    sign = -1 if high * low & 1 else 1
    return (scaled(a, sign), scaled(b, sign), scaled(r, sign))


def chained(one, other, k):
    """The triple of eliminated, if the degree of the second Poly is at most that of the first.

    It comes of the last one of the chain of subresultants, here as pairs (a, r), with r less a times one being
    some b times other. Each r has determinants of parts of the table as counts, and so has its a: therefore all
    divisions here leave no remainder.
    """
    nought, unit = Poly(()), number_poly(1)
    ahead, here = (unit, one), (nought, other)
    front = height = unit
    sign = 1
    while degree(here[1], k) > 0:
        high, low = degree(ahead[1], k), degree(here[1], k)
        sign = -sign if high & low & 1 else sign
        below = times(front, raised(height, high - low))
        ahead, here = here, behind(ahead, here, below, k)
        front = lead(ahead[1], k)
        height = next_height(height, front, high - low)
    if not here[1].terms:
        return (nought, nought, nought)
    many = degree(ahead[1], k) - 1
    factor, below = scaled(raised(here[1], many), sign), raised(height, many)
    a, r = [exact(times(part, factor), below) for part in here]
    return (a, exact(minus(r, times(a, one)), other), r)


def behind(ahead, here, below, k):
    """The pair of the chain behind two others; its r is the remainder of theirs over what is below."""
    many, q, rest = divided(ahead[1], here[1], k)
    if not rest.terms:
        # Both have a common factor, the chain ends, and its a need not be known.
        return (rest, rest)
    a = minus(times(raised(lead(here[1], k), many), ahead[0]), times(q, here[0]))
    return (exact(a, below), exact(rest, below))


def next_height(height, front, gap):
    """The front to the gap over the height to the gap less 1, which divides it."""
    if gap == 0:
        return height
    return exact(raised(front, gap), raised(height, gap - 1))
