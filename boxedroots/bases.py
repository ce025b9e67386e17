"""Bases of the equations of a state, by an order of products of powers: each step of making them is told."""

from math import gcd

from boxedroots.common import content, lessened
from boxedroots.orders import BY_TOPS, divides, least_multiple, powers_of
from boxedroots.polys import Poly, plus, scaled
from boxedroots.reducing import Reducer, poly_from, remainder_of, told
from boxedroots.working import settle


class Base:
    """The reducers that are in use, of equations of a state, and the pairs of them that are still to be looked at.

    A pair is a quadruple (rank, key, one, other) with the least product that both greatest keys divide. sugars are
    the degrees that equations would have if all terms had been filled up to the same degree. It has failed if it took
    integers of more bits than the limit.
    """

    def __init__(self, order, work, limit):
        self.order = order
        self.work = work
        self.limit = limit
        self.failed = False
        self.reducers = []
        self.pairs = []
        self.sugars = []
        for at, poly in enumerate(work.equations):
            self.sugars.append(max([sum(powers) for powers, _ in poly.terms], default=0))
            if at < work.known:
                self.reducers.append(Reducer(at, order, poly))

    def take_in(self, new):
        """Put a reducer in use, with the pairs that are needed."""
        below = [(least_multiple(self.order, old.lead, new.lead), old) for old in self.reducers]
        kept = needed_pairs(below, new)
        self.pairs = [pair for pair in self.pairs if not self.spared(pair, new)]
        self.pairs.extend([self.pair_of(key, old, new) for key, old in kept])
        self.reducers = [old for old in self.reducers if not divides(new.lead, old.lead)] + [new]

    def spared(self, pair, new):
        """Whether a pair is spared, as two pairs with a new reducer stand for it."""
        key = pair[1]
        if not divides(new.lead, key):
            return False
        return key not in (
            least_multiple(self.order, pair[2].lead, new.lead), least_multiple(self.order, pair[3].lead, new.lead),
        )

    def pair_of(self, key, old, new):
        """The pair of two reducers."""
        high = sum(powers_of(self.order, key))
        rank = max([high - sum(powers_of(self.order, part.lead)) + self.sugars[part.at] for part in (old, new)])
        return (rank if self.order == BY_TOPS else 0, key, old, new)

    def next_pair(self):
        """Take out the pair to be looked at next."""
        best = 0
        for at, pair in enumerate(self.pairs):
            if pair[:2] < self.pairs[best][:2]:
                best = at
        return self.pairs.pop(best)


def needed_pairs(below, new):
    """Those pairs (key, old) of a new reducer that no other ones stand for."""
    kept = []
    for at, (key, old) in enumerate(below):
        others = below[at + 1:] + kept
        if key == old.lead + new.lead or not any([divides(other, key) for other, _ in others]):
            kept.append((key, old))
    # If two leads have no unknown in common their pair comes to nothing.
    return [(key, old) for key, old in kept if key != old.lead + new.lead]


def complete(work, order, limit=None):
    """Add equations to a state until they are a base, or it is closed; the list of the reducers of the base.

    None if that takes integers of more bits than the limit.
    """
    base = Base(order, work, limit)
    for at in range(work.known, len(work.equations)):
        base.take_in(Reducer(at, order, work.equations[at]))
    while base.pairs and not work.over and not base.failed:
        rank, key, old, new = base.next_pair()
        many = len(work.equations)
        look_at(base, key, old, new)
        if len(work.equations) > many:
            poly = work.equations[many]
            base.sugars.append(max(rank, max([sum(powers) for powers, _ in poly.terms])))
            base.take_in(Reducer(many, order, poly))
    return None if base.failed else least_reducers(base.reducers)


def least_reducers(reducers):
    """Those reducers whose greatest key no other one divides, of equal ones the first."""
    found = []
    for _, at in sorted([(reducer.lead, at) for at, reducer in enumerate(reducers)]):
        if not any([divides(other.lead, reducers[at].lead) for other in found]):
            found.append(reducers[at])
    return found


def look_at(base, key, old, new):
    """Reduce what comes of a pair, and add what is left, if anything, to the state."""
    shared = gcd(old.head, new.head)
    counts = {}
    fronts = []
    for part, factor in ((old, new.head // shared), (new, -(old.head // shared))):
        shift = key - part.lead
        fronts.append((part.at, shift, factor))
        for there, count in part.tail:
            counts[there + shift] = counts.get(there + shift, 0) + count * factor
    here = remainder_of(counts, base.reducers, base.limit)
    if here is None:
        base.failed = True
    elif here.rest:
        many, used, rest = told(here)
        row = counts_by_place(base.order, used, -1)
        for at, shift, factor in fronts:
            row[at] = plus(row.get(at, Poly(())), poly_from(base.order, {shift: factor * many}))
        add_divided(base.work, poly_from(base.order, rest), row)


def counts_by_place(order, used, sign):
    """The dict from places to Polys of what was used."""
    return {at: scaled(poly_from(order, row), sign) for at, row in used.items()}


def add_divided(work, poly, counts):
    """Add an equation that is the sum of counts times equations, divided by its content."""
    settle(work, lessened(poly, content(poly)), {}, counts)
