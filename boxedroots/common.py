"""Contents and greatest common divisors of polynomials, and quotients where they may not exist."""

from math import gcd

from boxedroots.judging import UNKNOWNS
from boxedroots.packing import quotient_terms
from boxedroots.polys import NO_POWERS, Poly, gathered, number_poly, poly_with, scaled, top, with_power


def content(poly):
    """The greatest integer that divides all counts of a Poly, 0 for the Poly 0."""
    found = 0
    for _, count in poly.terms:
        found = gcd(found, count)
        if found == 1:
            return 1
    return found


def lessened(poly, number):
    """The Poly divided by an integer that divides all its counts."""
    return poly_with(tuple([(powers, count // number) for powers, count in poly.terms]))


def primitive(poly):
    """The Poly without its content, the last of its counts above 0."""
    if not poly.terms:
        return poly
    number = content(poly)
    return lessened(poly, number if poly.terms[-1][1] > 0 else -number)


def number_in(poly):
    """The integer that a Poly is, None if an unknown stands in it."""
    if not poly.terms:
        return 0
    powers, count = poly.terms[-1]
    return count if len(poly.terms) == 1 and powers == NO_POWERS else None


def quotient(one, other):
    """The quotient of a Poly by another one that is not 0, None if there is a remainder."""
    found = quotient_terms(one.terms, other.terms)
    return None if found is None else poly_with(found)


def common(one, other):
    """A greatest common divisor of two Polys, the last of its counts above 0, or 0 if both are 0."""
    if not one.terms or not other.terms:
        rest = other if not one.terms else one
        return rest if not rest.terms or rest.terms[-1][1] > 0 else scaled(rest, -1)
    number = gcd(content(one), content(other))
    if len(one.terms) == 1 or len(other.terms) == 1:
        return poly_with(((common_powers(one, other), number),))
    return scaled(common_primitive(primitive(one), primitive(other)), number)


def common_powers(one, other):
    """The greatest powers that divide all terms of two Polys."""
    terms = one.terms + other.terms
    return tuple([min([powers[k] for powers, _ in terms]) for k in range(UNKNOWNS)])


def common_primitive(one, other):
    """A greatest common divisor of two Polys without contents, not 0.

    Both are looked at with a great integer in the place of an unknown; a common divisor of what comes of that is,
    written by this integer, the one that is looked for, but for too small integers, of which there are only so many.
    """
    highs = [top(one), top(other)]
    if highs[0] is None or highs[1] is None:
        return number_poly(1)
    k = max(highs)
    base = 2 * min([max([abs(count) for _, count in poly.terms]) for poly in (one, other)]) + 29
    while True:
        below = common(at_integer(one, k, base), at_integer(other, k, base))
        if below.terms:
            found = primitive(written_by(below, k, base))
            if quotient(one, found) is not None and quotient(other, found) is not None:
                return found
        base = base * 73794 // 27011


def at_integer(poly, k, base):
    """The Poly with an integer in the place of an unknown."""
    weights = [1]
    counts = {}
    for powers, count in poly.terms:
        high = powers[k]
        while len(weights) <= high:
            weights.append(weights[-1] * base)
        place = with_power(powers, k, 0)
        counts[place] = counts.get(place, 0) + count * weights[high]
    return gathered(counts)


def written_by(poly, k, base):
    """The Poly that comes to a Poly without an unknown if this is the base, its counts small on both sides of 0."""
    counts = {}
    for powers, count in poly.terms:
        high = 0
        while count != 0:
            digit = count % base
            digit = digit - base if 2 * digit > base else digit
            if digit != 0:
                counts[with_power(powers, k, high)] = digit
            count = (count - digit) // base
            high += 1
    return gathered(counts)


def content_beside(poly, kept):
    """A greatest common divisor of the Polys that stand at the products of powers of some unknowns in a Poly."""
    rows = {}
    for powers, count in poly.terms:
        place = tuple([powers[k] if k in kept else 0 for k in range(UNKNOWNS)])
        rest = tuple([0 if k in kept else powers[k] for k in range(UNKNOWNS)])
        rows.setdefault(place, []).append((rest, count))
    found = Poly(())
    for _, row in sorted([(len(row), place) for place, row in rows.items()]):
        found = common(found, poly_with(tuple(rows[row])))
        if number_in(found) == 1:
            return found
    return found


def primitive_beside(poly, kept):
    """The Poly divided by its content_beside and its sign."""
    if not poly.terms:
        return poly
    found = quotient(poly, content_beside(poly, kept))
    return found if found.terms[-1][1] > 0 else scaled(found, -1)
