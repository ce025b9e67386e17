"""What a cover of a system tells: how many roots there are, and what is 0 at all of them."""

from boxedroots.errors import NoPolynomial, TooMany, Unlike
from boxedroots.making import leaves_of, taken_apart
from boxedroots.polys import degree, stands_in, top
from boxedroots.systems import MOST_POLYS, System


def many_roots(system):
    """How many roots a system has, in a great enough field, None if there is no end of them."""
    found = 0
    for chain, _ in leaves_of(system):
        if len(chain) < system.many:
            return None
        many = 1
        for poly in chain:
            many = many * degree(poly, top(poly))
        found += many
    return found


def has_root(system):
    """Whether a system has a root, in a great enough field."""
    return bool(leaves_of(system))


def is_endless(system):
    """Whether a thing is a system of whose roots there is no end."""
    return isinstance(system, System) and any([len(chain) < system.many for chain, _ in leaves_of(system)])


def vanishing(system, poly):
    """A cover without leaves of the system with a Poly behind the barred ones, None if it is not 0 at all roots."""
    if not stands_in(system.many, poly):
        raise NoPolynomial()
    if len(system.barred) >= MOST_POLYS:
        raise TooMany(MOST_POLYS)
    steps, found = taken_apart(system.many, system.equations, system.barred + (poly,))
    return None if found else steps


def vanishes(system, poly):
    """Whether a Poly is 0 at all roots of a system."""
    if not stands_in(system.many, poly):
        raise NoPolynomial()
    return poly in system.equations or not has_any(system.many, system.equations, system.barred + (poly,))


def has_any(many, equations, barred):
    """Whether there is a root of equations, in so many unknowns, at which none of the barred ones is 0."""
    return bool(taken_apart(many, equations, barred)[1])


def same_roots(one, other):
    """Whether two systems in as many unknowns have the same roots."""
    if not are_alike(one, other):
        raise Unlike()
    return is_within(one, other) and is_within(other, one)


def are_alike(one, other):
    """Whether two things are systems in as many unknowns."""
    return isinstance(one, System) and isinstance(other, System) and one.many == other.many


def is_within(one, other):
    """Whether each root of a system is one of another one, in as many unknowns."""
    if not all([vanishes(one, poly) for poly in other.equations]):
        return False
    bars = [poly for poly in other.barred if poly not in one.barred]
    return not any([has_any(one.many, one.equations + (poly,), one.barred) for poly in bars])


def met(one, other):
    """The System of the equations and barred ones of two systems in as many unknowns, equal ones once."""
    if not are_alike(one, other):
        raise Unlike()
    equations = each_once(one.equations + other.equations)
    barred = each_once(one.barred + other.barred)
    if len(equations) > MOST_POLYS or len(barred) > MOST_POLYS:
        raise TooMany(MOST_POLYS)
    return System(one.many, equations, barred)


def each_once(polys):
    """The tuple of Polys, each once, where it comes first."""
    found = []
    for poly in polys:
        if poly not in found:
            found.append(poly)
    return tuple(found)
