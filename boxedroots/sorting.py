"""The real roots of the leaves of a system: put in order, and each in a box that is apart from those of the others."""

from boxedroots.boxings import inner_boxes
from boxedroots.narrowing import narrower
from boxedroots.numbers import compared
from boxedroots.piecing import boxing_over
from boxedroots.polys import unknown_poly
from boxedroots.ratios import is_less
from boxedroots.values import value_at

# So often boxes are made narrower before values are compared as numbers.
PATIENCE = 12


def places_of(chains):
    """The list of the pairs (chain, box) of all real roots of some chains, by their values of x, then y, then z."""
    found = []
    for chain in chains:
        rows = [(chain, box) for box in inner_boxes((), boxing_over(chain, ())[1])]
        found = merged(found, rows)
    return set_apart(found)


def merged(one, other):
    """The ascending list of the pairs of two such lists, without a chain in common."""
    found, at = [], 0
    for place in other:
        while at < len(one) and is_ahead(one[at], place):
            found.append(one[at])
            at += 1
        found.append(place)
    return found + one[at:]


def is_ahead(one, other):
    """Whether a root comes ahead of another one, of another chain."""
    for k in range(len(one[1])):
        order = order_at(one, other, k)
        if order != 0:
            return order < 0
    return False


def order_at(one, other, k):
    """The sign of a root's value of an unknown less that of another root."""
    (chain, box), (other_chain, other_box) = one, other
    chain, box, other_chain, other_box = chain[:k + 1], box[:k + 1], other_chain[:k + 1], other_box[:k + 1]
    for _ in range(PATIENCE):
        if not is_less(other_box[k][0], box[k][1]):
            return -1
        if not is_less(box[k][0], other_box[k][1]):
            return 1
        box, other_box = narrower(chain, box), narrower(other_chain, other_box)
    return compared(value_at(chain, box, unknown_poly(k)), value_at(other_chain, other_box, unknown_poly(k)))


def set_apart(places):
    """The list of the pairs (chain, box), their boxes made narrower until no two overlap."""
    found = []
    for chain, box in places:
        rest, found = found, []
        for other_chain, other in rest:
            while not are_apart(box, other):
                box, other = narrower(chain, box), narrower(other_chain, other)
            found.append((other_chain, other))
        found.append((chain, box))
    return found


def are_apart(one, other):
    """Whether two boxes have no more than parts of their rims in common."""
    for (low, high), (first, last) in zip(one, other):
        if not is_less(first, high) or not is_less(low, last):
            return True
    return False
