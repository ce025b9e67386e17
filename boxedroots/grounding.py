"""From any state to one whose equations have unlike tops."""

from boxedroots.bases import complete
from boxedroots.common import content, number_in, primitive, quotient
from boxedroots.factors import easy_factor
from boxedroots.holding import generic_chain, generic_multiple
from boxedroots.normals import drop_others, normal_over, put_normal
from boxedroots.orders import BY_DEGREE, BY_TOPS, bounded_by
from boxedroots.polys import lead, top
from boxedroots.reducing import Reducer, counts_of, poly_from, remainder_of, told
from boxedroots.staircase import base_by_tops
from boxedroots.working import never_nought, one_count, parted, settle, without_barred

# A base by tops is first tried with integers of no more bits than these on the way.
LIMIT = 600


def ground(work, many):
    """Bring a state nearer to equations of unlike tops; the list of the states that it is parted in, if it is."""
    tidy(work)
    if work.over:
        return []
    if work.fresh:
        work.fresh = False
        work.ready = has_unlike_tops(work.equations)
        return []
    parts = factored(work) if work.known == 0 else []
    if parts:
        return parts
    reducers = based(work, many)
    if work.over:
        return []
    if work.order == BY_TOPS:
        return thinned(work, least_by_tops(work), reducers)
    return factored(work) or unbounded(work, many, reducers)


def unbounded(work, many, reducers):
    """As ground, where the equations are a base by degree, and there is no end of what it does not reduce."""
    by_tops = based_by_tops(work, LIMIT) if work.hint is None else None
    if by_tops is None:
        if work.hint is None:
            work.hint = generic_chain(work.equations, reducers, many)
        parts = thinned(work, work.hint, reducers)
        if work.ready or work.over:
            return parts
        told_of = generic_multiple(work.equations, reducers, many)
        if told_of is not None:
            put_all(work, [told_of[0]], reducers)
            work.hint = None
            return work.part(told_of[1])
        by_tops = based_by_tops(work, None)
    return [] if work.over else thinned(work, least_by_tops(work), by_tops)


def factored(work):
    """The two states that a state is parted in by a factor of an equation, none if none is found."""
    for poly in work.equations:
        factor = easy_factor(poly)
        if factor is not None:
            parts = work.part(factor)
            # What the equations can now be divided by is looked for in all of them.
            other = parts[1]
            other.known = 0
            return parts
    return []


def has_unlike_tops(equations):
    """Whether no two equations have the same top."""
    tops = [top(poly) for poly in equations]
    return len({k for k in tops}) == len(tops)


def tidy(work):
    """Drop the equations that are 0, and what is divided out of others; close where an integer is in the way."""
    for at, poly in enumerate(work.barred):
        if not poly.terms:
            work.close({at: 1}, {})
            return
    at = work.known
    while at < len(work.equations) and not work.over:
        poly = work.equations[at]
        if not poly.terms:
            work.drop(at, {}, {})
        elif dropped_by_divisor(work, at):
            at = work.known
        elif tidy_already(work, poly):
            at += 1
        else:
            replace_tidily(work, at)


def dropped_by_divisor(work, at):
    """Whether another equation divides an equation, which then is dropped."""
    fronts = {}
    for place, other in enumerate(work.equations):
        if place != at and other.terms and not fronts:
            front = quotient(work.equations[at], other)
            if front is not None:
                fronts[place] = front
    if fronts:
        work.drop(at, {}, fronts)
    return bool(fronts)


def tidy_already(work, poly):
    """Whether nothing can be divided out of an equation, and an unknown stands in it."""
    return number_in(poly) is None and content(poly) == 1 and without_barred(poly, work.barred)[1] == poly


def replace_tidily(work, at):
    """Put what is left of an equation, if its content and the barred ones are divided out, behind, and drop it."""
    poly = work.equations[at]
    settle(work, primitive(poly), {}, one_count(at))
    if not work.over:
        last = len(work.equations) - 1
        work.drop(at, {}, {last: quotient(poly, work.equations[last])})


def based(work, many):
    """Have a state whose equations are a base, by tops if it is bounded, or close it; the reducers of the base."""
    start = len(work.equations)
    reducers = complete(work, work.order)
    if work.over:
        return []
    keep_only(work, reducers, start)
    if work.order == BY_DEGREE and bounded_by(many, BY_DEGREE, [reducer.lead for reducer in reducers]):
        work.order = BY_TOPS
        start = len(work.equations)
        reducers = put_all(work, base_by_tops(many, reducers), reducers)
        keep_only(work, reducers, start)
    return reducers


def based_by_tops(work, limit):
    """Have a state whose equations are a base by tops, or close it, by the long way; the reducers of the base.

    None, and the state is as before, if that takes integers of more bits than the limit.
    """
    start, done, known = len(work.equations), len(work.steps), work.known
    work.known = 0
    reducers = complete(work, BY_TOPS, limit)
    if reducers is None:
        del work.equations[start:]
        del work.steps[done:]
        work.grown = {}
        work.known = known
        return None
    work.order = BY_TOPS
    if not work.over:
        keep_only(work, reducers, start)
    return reducers


def put_all(work, polys, reducers):
    """Put Polys that the reducers by degree reduce to 0 behind the equations; the list of their reducers by tops."""
    found = []
    for poly in polys:
        if poly not in work.equations:
            _, used, _ = told(remainder_of(counts_of(BY_DEGREE, poly), reducers))
            work.put(poly, {}, {at: poly_from(BY_DEGREE, row) for at, row in used.items()})
        found.append(Reducer(work.equations.index(poly), BY_TOPS, poly))
    return found


def keep_only(work, reducers, start):
    """Drop all equations but those of the reducers: what came from start on, the last first, as it came."""
    kept = {reducer.at: True for reducer in reducers}
    for at in range(len(work.equations) - 1, -1, -1):
        if at in kept:
            continue
        if at >= start:
            powers, counts = work.grown[at]
            work.drop(at, powers, counts)
        else:
            _, used, _ = told(remainder_of(counts_of(work.order, work.equations[at]), reducers))
            work.drop(at, {}, {place: poly_from(work.order, row) for place, row in used.items()})
        for reducer in reducers:
            if reducer.at > at:
                reducer.at = reducer.at - 1
    work.grown = {}
    work.known = len(work.equations)


def thinned(work, polys, reducers):
    """Have only equations that come of Polys of unlike tops, of the base's ideal; or part the state.

    That is so if a leading count may be 0. If the Polys do not serve, there are only more equations than before.
    """
    if polys is None:
        return []
    chain, normals = [], {}
    for index, poly in enumerate(polys):
        if not never_nought(lead(poly, top(poly)), work.barred):
            told_of = normal_over(tuple(chain), poly)
            if told_of is None:
                return parted(work, lead(poly, top(poly)))
            normals[index] = told_of
            poly = told_of[0]
        chain.append(poly)
    places = []
    for index, reducer in enumerate(put_all(work, polys, reducers)):
        at = reducer.at
        places.append(put_normal(work, at, places, normals[index]) if index in normals else at)
    work.known = 0
    work.ready = drop_others(work, places)
    return []


def least_by_tops(work):
    """The list of the equations that have, of those with the same top, the least greatest key, by rising tops."""
    found = {}
    for at, poly in enumerate(work.equations):
        rank = (Reducer(at, BY_TOPS, poly).lead, at)
        k = top(poly)
        if k not in found or rank < found[k]:
            found[k] = rank
    return [work.equations[found[k][1]] for k in sorted(found)]
