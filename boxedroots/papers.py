"""Remainders by chains, and papers: that a polynomial is 0 at no root of a chain, for almost all free unknowns."""

from math import gcd

from boxedroots.common import content, lessened, number_in, primitive_beside
from boxedroots.divide import divided_shortly, eliminated
from boxedroots.orders import BY_TOPS
from boxedroots.polys import Poly, degree, lead, number_poly, plus, raised, scaled, times, top
from boxedroots.reducing import Reducer, counts_of, poly_from, remainder_of, told


def heads_of(chain):
    """The list of the leading counts of a chain."""
    return [lead(poly, top(poly)) for poly in chain]


def chain_remainder(poly, chain):
    """The quadruple (many, powers, fronts, rest) of a Poly and a chain.

    The leading counts of the chain, each so often as powers tell, times the integer many, times the Poly are the sum
    of the list fronts times the chain, and rest, of a lesser degree than each of the chain by its top.
    """
    heads = heads_of(chain)
    if all([number_in(head) is not None for head in heads]):
        return plain_remainder(poly, chain)
    powers = [0] * len(chain)
    fronts = [Poly(())] * len(chain)
    for at in range(len(chain) - 1, -1, -1):
        powers[at], fronts[at], poly = divided_shortly(poly, chain[at], top(chain[at]))
        factor = raised(heads[at], powers[at])
        for above in range(at + 1, len(chain)):
            fronts[above] = times(fronts[above], factor)
    return 1, powers, fronts, poly


def plain_remainder(poly, chain):
    """As chain_remainder, where the leading counts are integers, which go into many."""
    reducers = [Reducer(at, BY_TOPS, other) for at, other in enumerate(chain)]
    many, fronts, rest = told(remainder_of(counts_of(BY_TOPS, poly), reducers))
    row = [poly_from(BY_TOPS, fronts.get(at, {})) for at in range(len(chain))]
    return many, [0] * len(chain), row, poly_from(BY_TOPS, rest)


def lacks(poly, tops):
    """Whether none of some unknowns stands in a Poly."""
    return all([degree(poly, k) == 0 for k in tops])


def paper_over(chain, poly):
    """A paper, or None if there is none; the leading count of each of the chain has one by those ahead."""
    tops = [top(other) for other in chain]
    if lacks(poly, tops):
        return (number_poly(1), tuple([Poly(()) for _ in chain]), poly) if poly.terms else None
    if all([lacks(head, tops) for head in heads_of(chain)]):
        return flat_paper(chain, poly)
    return traced_paper(chain, poly)


def flat_paper(chain, poly):
    """As paper_over, where the leading counts stand in the free unknowns alone.

    Whatever stands in these alone may be multiplied in or divided out on the way: it is enough to find some u such
    that the remainder of u times the Poly stands in these alone.
    """
    tops = [top(other) for other in chain]
    rest = primitive_beside(chain_remainder(poly, chain)[3], tops)
    factor = number_poly(1)
    for at in range(len(chain) - 1, -1, -1):
        if degree(rest, tops[at]) > 0:
            a, _, rest = eliminated(rest, chain[at], tops[at])
            rest = primitive_beside(chain_remainder(rest, chain)[3], tops)
            factor = primitive_beside(chain_remainder(times(a, factor), chain)[3], tops)
    if not rest.terms:
        return None
    many, powers, fronts, rest = chain_remainder(times(factor, poly), chain)
    return without_content(times(factor, lead_product(many, chain, powers)), fronts, rest)


def without_content(factor, fronts, rest):
    """The paper of these three, divided by what integer divides all."""
    number = gcd(content(factor), content(rest))
    for front in fronts:
        number = gcd(number, content(front))
    return (lessened(factor, number), tuple([lessened(front, number) for front in fronts]), lessened(rest, number))


def traced_paper(chain, poly):
    """As paper_over, by keeping on the way how the rest came of the Poly."""
    trace = (number_poly(1), 1, [Poly(())] * len(chain), poly)
    for at in range(len(chain) - 1, -1, -1):
        k = top(chain[at])
        many, powers, fronts, rest = chain_remainder(trace[3], chain[:at + 1])
        trace = traced(trace, lead_product(many, chain, powers), fronts, rest)
        if degree(trace[3], k) > 0:
            a, b, rest = eliminated(trace[3], chain[at], k)
            trace = traced(trace, a, [Poly(())] * at + [scaled(b, -1)], rest)
    factor, scale, fronts, rest = trace
    return without_content(factor, fronts, scaled(rest, scale)) if rest.terms else None


def traced(trace, by, row, left):
    """The trace (factor, scale, fronts, rest) behind a step: by times rest is left and the row times the chain.

    Factor times the Poly is scale times rest and fronts times the chain.
    """
    factor, scale, fronts, _ = trace
    fronts = [times(by, front) for front in fronts]
    for at, front in enumerate(row):
        fronts[at] = plus(fronts[at], scaled(front, scale))
    number = max(1, content(left))
    return (times(by, factor), scale * number, fronts, lessened(left, number))


def lead_product(many, chain, powers):
    """An integer times the leading counts of a chain, each so often as powers tell."""
    found = number_poly(many)
    for other, high in zip(chain, powers):
        if high > 0:
            found = times(found, raised(lead(other, top(other)), high))
    return found
