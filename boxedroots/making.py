"""Covers: a system is taken apart until each part is a leaf or has no root."""

from boxedroots.grounding import ground
from boxedroots.leafing import advance
from boxedroots.working import Work


def cover_of(system):
    """A cover of a system."""
    steps = []
    first = Work(system.equations, system.barred, steps)
    first.fresh = True
    left = [first]
    while left:
        work = left.pop()
        while not work.over:
            parts = advance(work) if work.ready else ground(work, system.many)
            parts.reverse()
            left.extend(parts)
    return tuple(steps)
