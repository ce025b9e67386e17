"""A state that is being covered: its equations and barred ones, and the steps that are done to it."""

from boxedroots.common import common, number_in, primitive, quotient
from boxedroots.orders import BY_DEGREE
from boxedroots.polys import Poly, number_poly, raised, times

# No power in a step is above 1000; these are so low that sums and products of them are not, either.
MOST_AT_ONCE = 500
MOST_FOR_GOOD = 4


class Work:
    """A state, with the list of all steps so far, which all states of a cover share.

    grown tells of equations that came last how they came: the pair (powers, counts) of the step; fresh tells whether
    it is as the system has it; ready whether no two equations have the same top; known how many equations, the first
    ones, are known to be a base by the order; hint a list of Polys of a chain, or None; over whether it is covered, or
    parted.
    """

    def __init__(self, equations, barred, steps):
        self.equations = list(equations)
        self.barred = list(barred)
        self.steps = steps
        self.grown = {}
        self.fresh = False
        self.ready = False
        self.known = 0
        self.order = BY_DEGREE
        self.hint = None
        self.over = False

    def put(self, poly, powers, counts):
        """Add an equation: powers a dict from barred ones, counts one from equations, by their numbers."""
        self.steps.append(("add", poly, self.powers_told(powers), self.counts_told(counts)))
        self.grown[len(self.equations)] = (powers, counts)
        self.equations.append(poly)

    def drop(self, at, powers, counts):
        """Drop an equation; counts are told by the numbers that the equations have ahead of it."""
        row = self.counts_told(counts)
        self.steps.append(("drop", at, self.powers_told(powers), row[:at] + row[at + 1:]))
        del self.equations[at]
        self.grown = {place if place < at else place - 1: how for place, how in self.grown.items() if place != at}

    def close(self, powers, counts):
        """Tell that the state has no root."""
        self.steps.append(("none", self.powers_told(powers), self.counts_told(counts)))
        self.over = True

    def end(self, papers):
        """Tell that the state is a leaf."""
        self.steps.append(("chain", tuple(papers)))
        self.over = True

    def part(self, poly):
        """The two states that this one is parted in."""
        self.steps.append(("part", poly))
        first = Work(self.equations + [poly], self.barred, self.steps)
        other = Work(self.equations, self.barred + [poly], self.steps)
        other.ready = self.ready
        first.known = other.known = self.known
        first.order = other.order = self.order
        other.hint = self.hint
        self.over = True
        return [first, other]

    def powers_told(self, powers):
        """The tuple of a power for each barred one."""
        return tuple([powers.get(at, 0) for at in range(len(self.barred))])

    def counts_told(self, counts):
        """The tuple of a Poly for each equation."""
        nought = Poly(())
        return tuple([counts.get(at, nought) for at in range(len(self.equations))])


def without_barred(poly, barred):
    """The triple (powers, rest, factor): the rest times the barred ones, each to its power, is factor times a Poly.

    The Poly is not 0; powers is a dict from the numbers of the barred ones; the rest has no divisor in common with
    any of these, but integers, if that does not take too great powers: what was divided out is nowhere 0 where none
    of them is.
    """
    for at, other in enumerate(barred):
        if other.terms and primitive(other) == primitive(poly):
            return {at: 1}, number_poly(poly.terms[-1][1]), number_poly(other.terms[-1][1])
    powers = {}
    factor = number_poly(1)
    rest = poly
    for at, other in enumerate(barred):
        if number_in(other) is None and number_in(rest) is None:
            shared = primitive(common(rest, other))
            while number_in(shared) is None and powers.get(at, 0) < MOST_AT_ONCE:
                powers[at] = powers.get(at, 0) + 1
                factor = times(factor, quotient(other, shared))
                rest = quotient(rest, shared)
                shared = primitive(common(rest, shared))
    return powers, rest, factor


def settle(work, poly, powers, counts):
    """Add an equation that is known to hold, without what the barred ones bar, or close if nothing is left."""
    found, rest, factor = without_barred(poly, work.barred)
    together = {at: powers.get(at, 0) + found.get(at, 0) for at in range(len(work.barred))}
    row = {at: times(front, factor) for at, front in counts.items()}
    if number_in(rest) is None:
        work.put(rest, together, row)
    else:
        work.close(together, row)


def never_nought(poly, barred):
    """Whether a Poly is nowhere 0 where none of the barred ones is, as it divides a product of some of them."""
    if not poly.terms:
        return False
    powers, rest, _ = without_barred(poly, barred)
    return number_in(rest) is not None and sum(powers.values()) <= MOST_FOR_GOOD


def certificate(work, heads, powers, fronts):
    """The pair (powers, counts) of a step, if heads, each to its power, times what it is about come to fronts.

    The heads are never 0 where none of the barred ones is; fronts is a dict from the numbers of equations.
    """
    together = {}
    whole = number_poly(1)
    for head, high in zip(heads, powers):
        if high > 0:
            found, _, factor = without_barred(head, work.barred)
            whole = times(whole, raised(factor, high))
            for at, often in found.items():
                together[at] = together.get(at, 0) + often * high
    return together, {at: times(front, whole) for at, front in fronts.items()}


def one_count(at):
    """The counts with 1 for this equation, 0 for others."""
    return {at: number_poly(1)}


def parted(work, poly):
    """The two states that a state is parted in, by what is left of a Poly without content and barred ones.

    If nothing is left, by the Poly: it is then for having it among the barred ones, and the first state is closed.
    """
    rest = primitive(without_barred(poly, work.barred)[1])
    return work.part(rest if number_in(rest) is None else primitive(poly))
