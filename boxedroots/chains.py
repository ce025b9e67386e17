"""Chains of polynomials, in which one unknown comes behind the other, and papers about their roots."""

from boxedroots.errors import NoChain, NoPolynomial
from boxedroots.papers import lacks, paper_over
from boxedroots.polys import Poly, lead, plus, slope, stands_in, times, top


def is_paper(many, chain, poly, thing):
    """Whether a thing is a paper for a Poly by a chain in so many unknowns."""
    if not is_chain(many, chain):
        raise NoChain()
    return is_paper_by(many, chain, len(chain), poly, thing)


def is_paper_by(many, chain, most, poly, thing):
    """Whether a thing is a paper for a Poly by a chain, with counts for so many of the chain, 0 behind these."""
    if not isinstance(thing, tuple) or len(thing) != 3:
        return False
    factor, counts, rest = thing
    if not stands_in(many, factor) or not are_polys(many, len(chain), counts) or not stands_in(many, rest):
        return False
    if not rest.terms or not lacks(rest, [top(other) for other in chain]):
        return False
    if any([bool(count.terms) for count in counts[most:]]):
        return False
    return times(factor, poly) == plus(rest, sum_of_products(counts, chain))


def are_polys(many, length, thing):
    """Whether a thing is a tuple of so many Polys in so many unknowns."""
    if not isinstance(thing, tuple) or len(thing) != length:
        return False
    return all([stands_in(many, poly) for poly in thing])


def sum_of_products(counts, polys):
    """The sum of the counts times the Polys."""
    found = Poly(())
    for count, poly in zip(counts, polys):
        if count.terms:
            found = plus(found, times(count, poly))
    return found


def is_chain(many, thing):
    """Whether a thing is a chain in so many unknowns."""
    if not isinstance(thing, tuple) or not all([stands_in(many, poly) for poly in thing]):
        return False
    below = -1
    for poly in thing:
        k = top(poly)
        if k is None or k <= below:
            return False
        below = k
    return True


def needed(many, chain):
    """The tuple of the leading count and the slope, by its top, of each of a chain."""
    if not is_chain(many, chain):
        raise NoChain()
    found = []
    for poly in chain:
        found.extend([lead(poly, top(poly)), slope(poly, top(poly))])
    return tuple(found)


def is_regular(many, thing):
    """Whether a thing is a regular chain in so many unknowns."""
    if not is_chain(many, thing):
        return False
    for at, poly in enumerate(thing):
        k = top(poly)
        if paper_over(thing[:at], lead(poly, k)) is None or paper_over(thing[:at + 1], slope(poly, k)) is None:
            return False
    return True


def paper_for(many, chain, poly):
    """A paper for a Poly by a regular chain, None if there is none."""
    if not is_regular(many, chain):
        raise NoChain()
    if not stands_in(many, poly):
        raise NoPolynomial()
    return paper_over(chain, poly)
