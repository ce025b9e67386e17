"""Covers: steps that take a system apart, judged one by one, until each part is a leaf or has no root."""

from boxedroots.chains import are_polys, is_chain, is_paper_by, needed, sum_of_products
from boxedroots.errors import NoCover, NoPoint
from boxedroots.judging import is_number_to, is_point
from boxedroots.packing import greatest_powers
from boxedroots.polys import number_poly, raised, stands_in, times, top
from boxedroots.systems import has_root_at

MOST_TIMES = 1000


def cover_fault(system, thing):
    """None for a cover of a system, else the number of the first wrong step, -1 for no tuple."""
    return followed(system, thing)[0]


def is_cover(system, thing):
    """Whether a thing is a cover of a system."""
    return cover_fault(system, thing) is None


def leaves(system, cover):
    """The list of the pairs (chain, barred) of the leaves of a cover, in order."""
    fault, found = followed(system, cover)
    if fault is not None:
        raise NoCover(fault)
    return found


def leaf_of(system, cover, point):
    """The number of the leaf of which a tuple of fractions is a root, None if it is no root of the system."""
    found = leaves(system, cover)
    if not is_point(system.many, point):
        raise NoPoint()
    for number, (chain, barred) in enumerate(found):
        if has_root_at(chain, barred, point):
            return number
    return None


def followed(system, thing):
    """The pair of what cover_fault tells and the list of the leaves."""
    if not isinstance(thing, tuple):
        return -1, []
    states = [(system.equations, system.barred)]
    found = []
    for number, step in enumerate(thing):
        if not states:
            return number, []
        state = states.pop()
        behind = states_behind(system.many, state, step)
        if behind is None:
            return number, []
        if step[0] == "chain":
            found.append((chain_of(state[0]), state[1]))
        behind.reverse()
        states.extend(behind)
    return (len(thing) if states else None), found


def states_behind(many, state, step):
    """The list of the states that come of a state by a step, None if it is none, or is not so."""
    if not isinstance(step, tuple) or len(step) < 2 or not isinstance(step[0], str):
        return None
    equations, barred = state
    name, many_parts = step[0], len(step)
    if name == "part" and many_parts == 2 and stands_in(many, step[1]):
        return [(equations + (step[1],), barred), (equations, barred + (step[1],))]
    if name == "add" and many_parts == 4 and stands_in(many, step[1]):
        if adds_up(many, state, step[1], step[2], step[3]):
            return [(equations + (step[1],), barred)]
    if name == "drop" and many_parts == 4 and is_number_to(len(equations) - 1, step[1]):
        others = equations[:step[1]] + equations[step[1] + 1:]
        if adds_up(many, (others, barred), equations[step[1]], step[2], step[3]):
            return [(others, barred)]
    if name == "none" and many_parts == 3 and adds_up(many, state, number_poly(1), step[1], step[2]):
        return []
    if name == "chain" and many_parts == 2 and holds_as_leaf(many, state, step[1]):
        return []
    return None


def adds_up(many, state, poly, powers, counts):
    """Whether the barred ones, to their powers, times a Poly, times an integer, are the sum of counts times equations.

    The integer is not 0.
    """
    equations, barred = state
    if not isinstance(powers, tuple) or len(powers) != len(barred):
        return False
    if not all([is_number_to(MOST_TIMES, high) for high in powers]) or not are_polys(many, len(equations), counts):
        return False
    factors = [(other, high) for other, high in zip(barred, powers) if high > 0] + [(poly, 1)]
    found = sum_of_products(counts, equations)
    if any([not other.terms for other, _ in factors]):
        return not found.terms
    if not found.terms or not may_be_product(found, factors):
        return False
    whole = number_poly(1)
    for other, high in factors:
        whole = times(whole, raised(other, high))
    return matches(found, whole)


def may_be_product(poly, factors):
    """Whether a Poly has the ends and the greatest powers of a product, which then may be costly to multiply out."""
    for end in (0, -1):
        if list(poly.terms[end][0]) != powers_together([(other.terms[end][0], high) for other, high in factors]):
            return False
    highs = [(greatest_powers(other.terms), high) for other, high in factors]
    return greatest_powers(poly.terms) == powers_together(highs)


def powers_together(rows):
    """The sums of the powers of rows (powers, many), each taken so many times."""
    return [sum([powers[k] * many for powers, many in rows]) for k in range(len(rows[0][0]))]


def matches(one, other):
    """Whether a Poly is an integer, not 0, times another one, both not 0."""
    (_, above), (_, below) = one.terms[0], other.terms[0]
    if len(one.terms) != len(other.terms) or above % below != 0:
        return False
    return one == times(number_poly(above // below), other)


def chain_of(equations):
    """The tuple of equations by rising tops."""
    ranks = [(-1 if top(poly) is None else top(poly), at) for at, poly in enumerate(equations)]
    return tuple([equations[at] for _, at in sorted(ranks)])


def holds_as_leaf(many, state, papers):
    """Whether the equations of a state are a chain, and the papers are those for all that is needed."""
    chain = chain_of(state[0])
    if not is_chain(many, chain):
        return False
    wanted = [(poly, at // 2 if at & 1 == 0 else len(chain)) for at, poly in enumerate(needed(many, chain))]
    wanted.extend([(poly, len(chain)) for poly in state[1]])
    if not isinstance(papers, tuple) or len(papers) != len(wanted):
        return False
    return all([is_paper_by(many, chain, most, poly, paper) for (poly, most), paper in zip(wanted, papers)])
