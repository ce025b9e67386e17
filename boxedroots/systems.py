"""Systems: polynomials that are to be 0, and others that are not to be 0."""

from boxedroots.errors import BadSystem
from boxedroots.judging import UNKNOWNS, is_integer, is_point
from boxedroots.polys import stands_in, worth

MOST_UNKNOWNS = 3
MOST_POLYS = 6


class System:
    """A system in so many unknowns: the tuple of its equations and that of its barred polynomials."""

    def __init__(self, many, equations, barred):
        if not is_integer(many) or not 1 <= many <= MOST_UNKNOWNS:
            raise BadSystem("many")
        for part, single, polys in (("equations", "equation", equations), ("barred", "barred", barred)):
            if not isinstance(polys, tuple) or len(polys) > MOST_POLYS:
                raise BadSystem(part)
            for index, poly in enumerate(polys):
                if not stands_in(many, poly):
                    raise BadSystem((single, index))
        self.many = many
        self.equations = equations
        self.barred = barred

    def __eq__(self, other):
        return (
            isinstance(other, System) and self.many == other.many and self.equations == other.equations
            and self.barred == other.barred
        )


def is_root(system, thing):
    """Whether a thing is a tuple of fractions at which the equations are 0, and the barred ones are not."""
    return is_point(system.many, thing) and has_root_at(system.equations, system.barred, thing)


def has_root_at(equations, barred, point):
    """Whether all equations, and none of the barred ones, are 0 at a tuple of fractions."""
    place = point + ((0, 1),) * (UNKNOWNS - len(point))
    if any([worth(poly, place)[0] != 0 for poly in equations]):
        return False
    return all([worth(poly, place)[0] != 0 for poly in barred])
