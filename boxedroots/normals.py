"""Equations whose leading count is made an integer, and those that a chain reduces to 0."""

from boxedroots.common import number_in, primitive
from boxedroots.papers import chain_remainder, heads_of, paper_over
from boxedroots.polys import degree, lead, scaled, times, top
from boxedroots.working import certificate


def normal_over(chain, poly):
    """The triple (normal, factor, fronts), normal being a Poly of the same top with an integer as its leading count.

    Factor times the Poly is fronts times the chain, and an integer times normal. None if there is none.
    """
    head = lead(poly, top(poly))
    tops = [top(other) for other in chain]
    if any([number_in(other) is None for other in heads_of(chain)]):
        return None
    if any([k not in tops and degree(head, k) > 0 for k in range(top(poly))]):
        return None
    paper = paper_over(chain, head)
    if paper is None or number_in(paper[2]) is None:
        return None
    many, _, fronts, rest = chain_remainder(times(paper[0], poly), chain)
    return (primitive(rest), scaled(paper[0], many), fronts)


def put_normal(work, at, places, told):
    """Put what normal_over tells of an equation, by the equations at some places, behind; its place."""
    normal, factor, fronts = told
    counts = {place: scaled(front, -1) for place, front in zip(places, fronts)}
    counts[at] = factor
    work.put(normal, {}, counts)
    return len(work.equations) - 1


def drop_others(work, places):
    """Drop all equations but those at some places, a chain, and tell whether it is done.

    The leading counts are never 0 where none of the barred ones is. It is not done, and none is dropped, if the chain
    does not reduce all others to 0.
    """
    chain = tuple([work.equations[at] for at in places])
    found = []
    for at, poly in enumerate(work.equations):
        if at not in places:
            _, powers, fronts, rest = chain_remainder(poly, chain)
            if rest.terms:
                return False
            found.append((at, powers, fronts))
    heads = heads_of(chain)
    while found:
        at, powers, fronts = found.pop()
        told = certificate(work, heads, powers, {place: front for place, front in zip(places, fronts)})
        work.drop(at, told[0], told[1])
        places = [place - 1 if place > at else place for place in places]
    return True


def drop_by(work, at, places, chain):
    """Drop an equation that a chain, of the equations at some places, with such leading counts, reduces to 0."""
    _, powers, fronts, _ = chain_remainder(work.equations[at], chain)
    told = certificate(work, heads_of(chain), powers, {place: front for place, front in zip(places, fronts)})
    work.drop(at, told[0], told[1])
