"""All real roots of a system whose roots have an end, and what can be asked of them."""

from math import lcm

from boxedroots.boxings import inner_boxes
from boxedroots.errors import Endless, NoPoint, NoPolynomial, NoUnknown, NoWidth, NoWish
from boxedroots.judging import is_fraction, is_integer, is_number_to, is_point
from boxedroots.making import leaves_of
from boxedroots.narrowing import narrow_to, narrower
from boxedroots.numbers import compared
from boxedroots.piecing import boxing_over
from boxedroots.polys import Poly, minus, number_poly, plus, scaled, stands_in, times, unknown_poly
from boxedroots.ratios import is_less, least_of
from boxedroots.sorting import places_of
from boxedroots.spreading import range_in
from boxedroots.values import value_at
from boxedroots.zeros import sign_at_root

MOST_WISHES = 6
# So often boxes are made narrower before values are compared as numbers.
PATIENCE = 12


class Root:
    """A real root of a system: a regular finite chain, and stretches among which it is the only root of the system."""

    def __init__(self, chain, stretches):
        self.chain = chain
        self.stretches = stretches

    def __eq__(self, other):
        return isinstance(other, Root) and has_same_values(self, other)

    def box(self, width):
        """A tuple of stretches, none longer than a width, in which there is no other real root of the system."""
        if not is_fraction(width) or width[0] <= 0:
            raise NoWidth()
        return narrow_to(self.chain, self.stretches, width)

    def value(self, k):
        """The Number that the root has as its value of an unknown."""
        if not is_number_to(len(self.chain) - 1, k):
            raise NoUnknown()
        return value_at(self.chain, self.stretches, unknown_poly(k))

    def sign_at(self, poly):
        """The sign of a Poly at the root."""
        if not stands_in(len(self.chain), poly):
            raise NoPolynomial()
        return sign_at_root(self.chain, self.stretches, poly)

    def value_of(self, poly):
        """The Number that a Poly comes to at the root."""
        if not stands_in(len(self.chain), poly):
            raise NoPolynomial()
        return value_at(self.chain, self.stretches, poly)


def has_same_values(one, other):
    """Whether two Roots have as many unknowns and the same values."""
    if len(one.chain) != len(other.chain):
        return False
    if one.chain == other.chain and one.stretches == other.stretches:
        return True
    return all([one.value(k) == other.value(k) for k in range(len(one.chain))])


def chains_of(system):
    """The list of the chains of a system whose roots have an end."""
    found = [chain for chain, _ in leaves_of(system)]
    if any([len(chain) < system.many for chain in found]):
        raise Endless()
    return found


def roots(system):
    """The list of all real roots of a system, by their values of x, then y, then z."""
    return [Root(chain, box) for chain, box in places_of(chains_of(system))]


def many_real(system):
    """How many real roots a system has."""
    return sum([len(inner_boxes((), boxing_over(chain, ())[1])) for chain in chains_of(system)])


def kept(system, wishes):
    """The list of the real roots at which each Poly of some wishes has one of its signs."""
    chains = chains_of(system)
    if not isinstance(wishes, tuple) or len(wishes) > MOST_WISHES:
        raise NoWish(-1)
    for index, wish in enumerate(wishes):
        if not is_wish(system.many, wish):
            raise NoWish(index)
    found = [Root(chain, box) for chain, box in places_of(chains)]
    for poly, signs in wishes:
        found = [root for root in found if root.sign_at(poly) in signs]
    return found


def is_wish(many, thing):
    """Whether a thing is a pair of a Poly in so many unknowns and a tuple of signs."""
    if not isinstance(thing, tuple) or len(thing) != 2:
        return False
    poly, signs = thing
    if not stands_in(many, poly) or not isinstance(signs, tuple):
        return False
    return all([is_integer(sign) and -1 <= sign <= 1 for sign in signs])


def least_at(system, poly):
    """The list of the real roots at which a Poly is least."""
    chains = chains_of(system)
    if not stands_in(system.many, poly):
        raise NoPolynomial()
    return least_of_all([Root(chain, box) for chain, box in places_of(chains)], poly)


def greatest_at(system, poly):
    """The list of the real roots at which a Poly is greatest."""
    chains = chains_of(system)
    if not stands_in(system.many, poly):
        raise NoPolynomial()
    return least_of_all([Root(chain, box) for chain, box in places_of(chains)], scaled(poly, -1))


def nearest(system, point):
    """The list of the real roots that lie nearest to a point."""
    chains = chains_of(system)
    if not is_point(system.many, point):
        raise NoPoint()
    return least_of_all([Root(chain, box) for chain, box in places_of(chains)], distance_to(point))


def distance_to(point):
    """The Poly of the square of the distance to a point, times an integer above 0."""
    whole = 1
    for _, under in point:
        whole = lcm(whole, under)
    found = Poly(())
    for k, (over, under) in enumerate(point):
        step = minus(scaled(unknown_poly(k), whole), number_poly(over * (whole // under)))
        found = plus(found, times(step, step))
    return found


def least_of_all(found, poly):
    """Those of some Roots at which a Poly is least."""
    found = promising(found, poly)
    if len(found) < 2:
        return found
    values = [root.value_of(poly) for root in found]
    least = values[0]
    for value in values:
        least = value if compared(value, least) < 0 else least
    return [root for root, value in zip(found, values) if value == least]


def promising(found, poly):
    """Those of some Roots at which a Poly may be least, as boxes tell that are made narrower for a while."""
    rows = [(root, root.stretches) for root in found]
    for _ in range(PATIENCE):
        if len(rows) < 2:
            break
        told = [(root, box, range_in(poly, box)) for root, box in rows]
        most = told[0][2][1]
        for _, _, (_, high) in told:
            most = least_of(most, high)
        rows = [(root, narrower(root.chain, box)) for root, box, (low, _) in told if not is_less(most, low)]
    return [root for root, _ in rows]
