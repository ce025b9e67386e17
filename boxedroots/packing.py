"""Products and quotients of tuples of terms, with the four powers of a term packed into one integer.

A packed term is a pair (place, count). Adding two places adds the powers, and places are ordered as the
tuples of powers are, if each power has as many bits of its own as the greatest one needs.
"""

from collections import defaultdict

from boxedroots.ascending import put_in
from boxedroots.judging import UNKNOWNS


def greatest_powers(terms):
    """The greatest power of each unknown."""
    return [max([powers[k] for powers, _ in terms], default=0) for k in range(UNKNOWNS)]


def packed(terms, widths):
    """The packed terms, in the same order, widths telling how many bits each power has."""
    _, second, third, fourth = widths
    return [
        ((((((powers[0] << second) + powers[1]) << third) + powers[2]) << fourth) + powers[3], count)
        for powers, count in terms
    ]


def unpacked(packs, widths):
    """The tuple of the terms that were packed."""
    _, second, third, fourth = widths
    above = third + fourth
    return tuple([
        (
            (
                place >> (second + above),
                (place >> above) & ((1 << second) - 1),
                (place >> fourth) & ((1 << third) - 1),
                place & ((1 << fourth) - 1),
            ),
            count,
        )
        for place, count in packs
    ])


def scaled_terms(terms, powers, count):
    """The terms of a product with the single term of these powers and this count."""
    first, second, third, fourth = powers
    return tuple([
        ((ahead[0] + first, ahead[1] + second, ahead[2] + third, ahead[3] + fourth), here * count)
        for ahead, here in terms
    ])


def product_terms(one, other):
    """The terms of the product of two tuples of terms."""
    if len(one) > len(other):
        one, other = other, one
    if not one:
        return ()
    if len(one) == 1:
        return scaled_terms(other, one[0][0], one[0][1])
    widths = [(high + low).bit_length() for high, low in zip(greatest_powers(one), greatest_powers(other))]
    counts = added_products(packed(one, widths), packed(other, widths))
    return unpacked([(place, counts[place]) for place in sorted(counts) if counts[place] != 0], widths)


def added_products(one, other):
    """The dict from each place to the count there of the product of packed terms."""
    counts = defaultdict(int)
    for here, count in one:
        for there, many in other:
            counts[here + there] += count * many
    return dict(counts)


def quotient_terms(one, other):
    """The terms of the quotient of two tuples of terms, the second one not empty; None if there is a remainder."""
    if len(other) == 1:
        return divided_terms(one, other[0][0], other[0][1])
    highs = greatest_powers(one)
    spare = [high - low for high, low in zip(highs, greatest_powers(other))]
    if any([high < 0 for high in spare]):
        return () if not one else None
    # One bit more for each power, so that a difference that is below 0 shows there.
    widths = [high.bit_length() + 1 for high in highs]
    bound = packed([(tuple(spare), 0)], widths)[0][0]
    guard = packed([(tuple([1 << (width - 1) for width in widths]), 0)], widths)[0][0]
    found = taken_out(packed(one, widths), packed(other, widths), bound, guard)
    if found is None:
        return None
    found.reverse()
    return unpacked(found, widths)


def divided_terms(terms, powers, count):
    """The terms of the quotient by the single term of these powers and this count, None if there is a remainder."""
    first, second, third, fourth = powers
    for ahead, here in terms:
        if here % count != 0 or ahead[0] < first or ahead[1] < second or ahead[2] < third or ahead[3] < fourth:
            return None
    return tuple([
        ((ahead[0] - first, ahead[1] - second, ahead[2] - third, ahead[3] - fourth), here // count)
        for ahead, here in terms
    ])


def taken_out(one, other, bound, guard):
    """The packed terms of the quotient, the greatest place first, None if there is a remainder.

    Both ascend. A quotient has powers up to the bound; guard has the spare bit of each power.
    """
    last, least = other[-1]
    lower = other[:-1]
    counts = {place: count for place, count in one}
    places = [place for place, _ in one]
    found = []
    while places:
        place = places.pop()
        # No later step reaches this place again, as all that they take away stands below their own.
        count = counts.pop(place)
        if count == 0:
            continue
        step, many = (place | guard) - last, count // least
        if count != many * least or step & guard != guard or ((bound | guard) - (step - guard)) & guard != guard:
            return None
        step = step - guard
        found.append((step, many))
        for there, by in lower:
            at = there + step
            if at not in counts:
                put_in(places, at)
                counts[at] = 0
            counts[at] -= by * many
    return found
