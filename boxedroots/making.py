"""Covers: a system is taken apart until each part is a leaf or has no root."""

from boxedroots.covers import chain_of
from boxedroots.grounding import ground
from boxedroots.leafing import advance
from boxedroots.working import Work


def cover_of(system):
    """A cover of a system."""
    return taken_apart(system.many, system.equations, system.barred)[0]


def leaves_of(system):
    """The list of the pairs (chain, barred) of the leaves of a cover of a system."""
    return taken_apart(system.many, system.equations, system.barred)[1]


def taken_apart(many, equations, barred):
    """The pair of a cover of the first state, in so many unknowns, and the list of the pairs (chain, barred)."""
    steps, found = [], []
    first = Work(equations, barred, steps)
    first.fresh = True
    left = [first]
    while left:
        work = left.pop()
        while not work.over:
            parts = advance(work) if work.ready else ground(work, many)
            parts.reverse()
            left.extend(parts)
        if steps[-1][0] == "chain":
            found.append((chain_of(work.equations), tuple(work.barred)))
    return tuple(steps), found
