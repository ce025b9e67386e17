"""Whether, and with what sign, a polynomial is 0 at the one root of a chain in a box."""

from boxedroots.common import common, number_in, primitive
from boxedroots.divide import divided_shortly
from boxedroots.isolating import changes_sign
from boxedroots.narrowing import narrower, root_sign
from boxedroots.papers import chain_remainder
from boxedroots.polys import degree, lead, poly_with, top
from boxedroots.spreading import placed, sign_in

# So often a box is made narrower before it is asked whether the polynomial is 0.
PATIENCE = 6


def sign_at_root(chain, box, poly):
    """The sign of a Poly at the one root of a regular finite chain in a box."""
    highest = top(poly)
    many = 0 if highest is None else highest + 1
    chain, box = chain[:many], box[:many]
    for _ in range(PATIENCE):
        sign = sign_in(poly, box)
        if sign != 0:
            return sign
        box = narrower(chain, box)
    return 0 if is_zero_at(chain, box, poly) else root_sign(chain, box, poly)


def is_zero_at(chain, box, poly):
    """Whether a Poly is 0 at the one root of a regular finite chain in a box."""
    rest = primitive(chain_remainder(poly, chain)[3])
    if number_in(rest) is not None:
        return not rest.terms
    k = top(rest)
    if k == 0:
        return changes_sign(common(chain[0], rest), box[0][0], box[0][1])
    ahead, inner = chain[:k], box[:k]
    shared = shared_at(ahead, inner, chain[k], rest, k)
    ends = [root_sign(ahead, inner, placed(shared, k, place)) for place in box[k]]
    return ends[0] != ends[1]


def shared_at(chain, box, one, other, k):
    """A Poly that is, at the root of a chain in a box, a greatest common divisor by the unknown k of two Polys.

    The chain is of the unknowns below; the leading count of the first Poly is not 0 at the root.
    """
    while True:
        other = without_noughts(chain, box, other, k)
        if degree(other, k) == 0:
            return other if other.terms else one
        rest = chain_remainder(divided_shortly(one, other, k)[2], chain)[3]
        one, other = other, primitive(rest)


def without_noughts(chain, box, poly, k):
    """What is left of a Poly without those terms, by the greatest powers of the unknown k, that are 0 at the root."""
    while poly.terms and is_zero_at(chain, box, lead(poly, k)):
        high = degree(poly, k)
        poly = poly_with(tuple([term for term in poly.terms if term[0][k] < high]))
    return poly
