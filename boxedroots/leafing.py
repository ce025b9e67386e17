"""From a state whose equations have unlike tops to leaves."""

from boxedroots.common import number_in, primitive, quotient
from boxedroots.grounding import has_unlike_tops, tidy
from boxedroots.normals import drop_by, normal_over, put_normal
from boxedroots.papers import chain_remainder, heads_of, paper_over
from boxedroots.polys import Poly, degree, lead, slope, times, top
from boxedroots.splitting import factor_at, quotient_over
from boxedroots.working import certificate, never_nought, parted, settle, without_barred


def advance(work):
    """Bring a state nearer to a leaf; the list of the states that it is parted in, if it is."""
    tidy(work)
    if work.over:
        return []
    if not has_unlike_tops(work.equations):
        work.ready = False
        return []
    places = [at for _, at in sorted([(top(poly), at) for at, poly in enumerate(work.equations)])]
    chain = tuple([work.equations[at] for at in places])
    papers = {}
    for place, many, poly in wanted(chain, work.barred):
        paper = paper_over(chain[:many], poly)
        if paper is None:
            return split(work, places, chain[:many], poly)
        if place < 2 * len(chain) and place == 2 * many and made_normal(work, places[:many + 1], chain[:many + 1]):
            return []
        papers[place] = (paper[0], paper[1] + (Poly(()),) * (len(chain) - many), paper[2])
    work.end([papers[place] for place in range(len(papers))])
    return []


def wanted(chain, barred):
    """The list of the triples (place, many, poly), in the order in which papers are best looked for.

    place is that of the paper in a leaf, and so many of the chain are enough for it.
    """
    levels = [level_of(chain, poly) for poly in barred]
    found = []
    for many in range(len(chain) + 1):
        found.extend([(2 * len(chain) + at, many, barred[at]) for at, level in enumerate(levels) if level == many])
        if many > 0:
            found.append((2 * many - 1, many, slope(chain[many - 1], top(chain[many - 1]))))
        if many < len(chain):
            found.append((2 * many, many, lead(chain[many], top(chain[many]))))
    return found


def level_of(chain, poly):
    """How many of a chain have all tops of it that stand in a Poly."""
    return max([at + 1 for at, other in enumerate(chain) if degree(poly, top(other)) > 0], default=0)


def made_normal(work, places, chain):
    """Whether the last equation of a chain had a leading count that is no integer, and now has one that is."""
    poly = chain[-1]
    if number_in(lead(poly, top(poly))) is not None:
        return False
    told = normal_over(chain[:-1], poly)
    if told is None:
        return False
    new = put_normal(work, places[-1], places[:-1], told)
    drop_by(work, places[-1], places[:-1] + [new], chain[:-1] + (told[0],))
    return True


def split(work, places, chain, poly):
    """Bring a state nearer to a leaf, where a Poly, needed for it, has no paper by a chain of its equations."""
    rest = chain_remainder(poly, chain)[3]
    if not rest.terms:
        return vanish(work, places, chain, poly)
    at, factor, own = factor_at(chain, rest)
    blocker = poly if own and never_nought(poly, work.barred) else factor
    if never_nought(blocker, work.barred):
        return divide_out(work, places, chain, at, factor, blocker)
    factor = primitive(without_barred(factor, work.barred)[1])
    k = top(chain[at])
    whole = quotient(chain[at], factor)
    if whole is None:
        for head in heads_of(chain[:at]) + [lead(factor, k)]:
            if not never_nought(head, work.barred):
                return parted(work, head)
    parts = work.part(factor)
    if degree(factor, k) > 0:
        replace(parts[0], places[:at + 1], chain[:at + 1], whole)
    return parts


def replace(work, places, chain, whole):
    """Drop the last one of a chain, which the last equation divides, wholly or over the chain ahead."""
    last = len(work.equations) - 1
    if whole is None:
        drop_by(work, places[-1], places[:-1] + [last], chain[:-1] + (work.equations[last],))
    else:
        work.drop(places[-1], {}, {last: whole})
    work.ready = True


def vanish(work, places, chain, poly):
    """Bring a state nearer to a leaf, where a chain of its equations reduces a Poly, needed for it, to 0."""
    _, powers, fronts, _ = chain_remainder(poly, chain)
    heads = heads_of(chain)
    for head, high in zip(heads, powers):
        if high > 0 and not never_nought(head, work.barred):
            return parted(work, head)
    if never_nought(poly, work.barred):
        row = {place: front for place, front in zip(places, fronts)}
        told = certificate(work, heads + [poly], powers + [1], row)
        work.close(told[0], told[1])
    elif poly.terms:
        work.ready = False
    return []


def divide_out(work, places, chain, at, factor, blocker):
    """Divide a factor out of one of a chain, as the blocker, which is never 0, would be 0 where the factor is."""
    poly, ahead = chain[at], chain[:at]
    left = quotient_over(poly, factor, ahead)
    bare = without_barred(left, work.barred)[1]
    front = quotient(times(blocker, left), poly)
    powers, fronts = [0] * len(chain), [Poly(())] * at + [front]
    if front is None:
        _, powers, fronts, _ = chain_remainder(times(blocker, left), chain)
    heads = heads_of(chain)
    needed = [head for head, high in zip(heads, powers) if high > 0]
    whole = quotient(poly, bare)
    if whole is None:
        needed = needed + heads_of(ahead) + [lead(bare, top(poly))]
    for head in needed:
        if not never_nought(head, work.barred):
            return parted(work, head)
    row = {place: front for place, front in zip(places, fronts)}
    told = certificate(work, heads + [blocker], powers + [1], row)
    settle(work, left, told[0], told[1])
    if not work.over:
        replace(work, places[:at + 1], chain[:at + 1], whole)
    return []
