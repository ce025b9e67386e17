"""Parts of a chain at which a polynomial is 0: common divisors over what is ahead in the chain."""

from boxedroots.common import common, primitive_beside, quotient
from boxedroots.divide import divided_shortly
from boxedroots.papers import chain_remainder, paper_over
from boxedroots.polys import degree, lead, number_poly, times, top


def factor_at(chain, poly):
    """The triple (at, factor, own) of a chain and a remainder by it, not 0, that has no paper.

    factor divides the Poly of the chain at this place, over what is ahead of it, has its top, in a lesser degree, and
    a leading count that stands in free unknowns alone if anything is ahead; own tells whether it divides the remainder.
    """
    at = level_of(chain, poly)
    k = top(chain[at])
    ahead = chain[:at]
    if not ahead:
        # By the lemma of Gauss what stands in free unknowns alone can be divided out.
        return (0, primitive_beside(common(chain[0], poly), [k]), True)
    one, other = chain[at], poly
    while other.terms:
        head = lead(other, k)
        paper = paper_over(ahead, head)
        if paper is None:
            found, factor, _ = factor_at(ahead, chain_remainder(head, ahead)[3])
            return (found, factor, False)
        other = normal(other, paper[0], ahead, k)
        # Free unknowns above this top may stand in them on the way, so that this is no remainder by a chain.
        one, other = other, normal(divided_shortly(one, other, k)[2], number_poly(1), ahead, k)
    return (at, one, True)


def level_of(chain, poly):
    """The greatest place in a chain whose top stands in a Poly."""
    return max([at for at, other in enumerate(chain) if degree(poly, top(other)) > 0])


def normal(poly, factor, chain, k):
    """The remainder by a chain of a factor times a Poly of this top, without what stands in free unknowns alone."""
    kept = [top(other) for other in chain] + [k]
    return primitive_beside(chain_remainder(times(factor, poly), chain)[3], kept)


def quotient_over(poly, factor, chain):
    """What is left of a Poly if a factor, over a chain whose unknowns are below, is divided out."""
    found = quotient(poly, factor)
    if found is not None:
        return found
    k = top(poly)
    front = chain_remainder(poly, chain + (factor,))[2][len(chain)]
    return normal(front, paper_over(chain, lead(front, k))[0], chain, k)
