"""5.1, of cover_of: that it tells a cover of every system, held against the words of 3.1 by the tests' own judge."""

import unittest
from itertools import product

from boxedroots.covers import cover_fault, is_cover, leaf_of, leaves
from boxedroots.making import cover_of
from boxedroots.polys import Poly, degree, minus, number_poly, plus, power, times, top
from boxedroots.systems import System, is_root
from helping import NOUGHT, ONE, X, Y, Z, Dice, linear, made, total
from judge import judged

XY, XZ, YZ = times(X, Y), times(X, Z), times(Y, Z)
XX, YY, ZZ = times(X, X), times(Y, Y), times(Z, Z)


def number(many):
    return number_poly(many)


def dense(dice, high, unknowns, size=9):
    """A Poly with all terms up to a degree."""
    counts = {}
    for powers in product(range(high + 1), repeat=len(unknowns)):
        if sum(powers) <= high:
            row = dict(zip(unknowns, powers))
            counts[tuple([row.get(k, 0) for k in range(4)])] = dice.throw(-size, size)
    return made(counts)


def roots_told(system):
    """How many roots the leaves of the cover tell, None if there is no end of them."""
    found = 0
    for chain, _ in leaves(system, cover_of(system)):
        if len(chain) < system.many:
            return None
        many = 1
        for poly in chain:
            many *= degree(poly, top(poly))
        found += many
    return found


# (how many roots there are, the system)
KNOWN = (
    (2, System(2, (minus(plus(XX, YY), number(5)), minus(X, times(number(2), Y))), ())),
    (1, System(2, (minus(plus(XX, YY), number(5)), minus(X, times(number(2), Y))), (linear(-2, 1),))),
    (0, System(2, (minus(plus(XX, YY), number(5)), minus(X, times(number(2), Y))), (linear(-4, 0, 1),))),
    (3, System(1, (times(linear(-1, 1), times(power(linear(2, 1), 2), power(linear(0, 5), 3))),), ())),
    (2, System(1, (times(linear(-1, 1), times(power(linear(2, 1), 2), power(linear(0, 5), 3))),), (X,))),
    (1, System(1, (linear(-4, 0, 1), linear(-6, 1, 1)), ())),
    (0, System(1, (linear(-4, 0, 1), linear(-6, 1, 1)), (linear(-2, 1),))),
    (0, System(1, (linear(-4, 0, 1), linear(-9, 0, 1)), ())),
    (0, System(1, (X, ONE), ())), (None, System(1, (), ())), (None, System(3, (), ())), (None, System(2, (), (X, Y))),
    (None, System(1, (NOUGHT,), ())), (0, System(1, (NOUGHT,), (NOUGHT,))), (0, System(2, (), (X, NOUGHT))),
    (0, System(2, (number(-7),), (X,))), (1, System(1, (X,), (number(5), ONE))), (0, System(1, (X,), (X,))),
    (None, System(2, (X,), ())), (1, System(2, (X, Y), ())), (None, System(2, (XY,), ())), (None, System(2, (XY,), (X,))),
    (0, System(2, (XY,), (X, Y))), (None, System(2, (power(XY, 3),), ())), (4, System(2, (minus(XX, ONE), minus(YY, X)), ())),
    (1, System(2, (XX, YY), ())), (3, System(2, (power(minus(Y, XX), 2), times(Y, linear(-4, 0, 1))), ())),
    (4, System(2, (minus(plus(XX, YY), number(5)), minus(XY, number(2))), ())),
    (None, System(2, (times(X, minus(Y, X)), times(X, plus(Y, X))), ())),
    (1, System(2, (times(plus(X, Y), minus(X, Y)), times(plus(X, Y), linear(-1, 1)), minus(X, Y)), (plus(X, Y),))),
    (None, System(3, (XY, YZ, XZ), ())), (0, System(3, (XY, YZ, XZ), (XY,))), (None, System(3, (XY, YZ, XZ), (X,))),
    (6, System(3, (total([X, Y, Z]), total([XY, YZ, XZ]), minus(times(XY, Z), ONE)), ())),
    (8, System(3, (linear(-1, 0, 1), minus(YY, ONE), minus(ZZ, ONE)), ())),
    (4, System(3, (linear(-1, 0, 1), minus(YY, ONE), minus(ZZ, ONE)), (minus(X, Y),))),
    (0, System(3, (linear(-1, 0, 1), minus(YY, ONE), minus(ZZ, ONE)), (minus(X, Y), minus(Y, Z), minus(X, Z)))),
    (1, System(3, (power(total([X, Y, Z]), 2), plus(XX, plus(YY, ZZ)), minus(X, Y)), (ONE,))),
    (None, System(3, (minus(plus(XX, YY), ZZ),), (Z,))), (None, System(3, (minus(Y, XX), minus(Z, times(X, XX))), ())),
    (None, System(3, (minus(XZ, YY), minus(Y, XX), minus(Z, XY)), ())), (None, System(3, (Z,), ())),
    (4, System(3, (minus(XZ, YY), minus(Y, XX), plus(plus(Z, number(6)), times(number(7), X))), ())),
    (3, System(3, (minus(XZ, YY), minus(Y, XX), plus(plus(Z, number(6)), times(number(7), X))), (X,))),
    (0, System(3, (XZ, minus(YZ, ONE), X, Y), ())), (None, System(3, (times(XY, Z), times(X, plus(Y, Z))), ())),
    (1, System(3, (X, Y, Z, plus(X, Y), plus(Y, Z), XY), (ONE,) * 6)), (0, System(3, (X, Y, Z), (XY,) * 6)),
    (1, System(2, (minus(XX, times(number(2), X)), XY, minus(YY, Y)), (minus(plus(X, Y), ONE), plus(X, Y)))),
    (2, System(2, (minus(times(linear(-2, 1), YY), ONE), linear(6, -5, 1), NOUGHT), ())),
    (12, System(3, (minus(power(X, 3), Y), minus(YY, X), minus(ZZ, plus(X, number(3)))), ())),
)

LINES = tuple([minus(unknown, number(2)) for unknown in (XX, YY, ZZ)])
# Here what is to be divided out divides only over what is ahead in the chain.
OVER = (
    (2, System(2, LINES[:2], (minus(X, Y),))), (2, System(3, LINES, (minus(X, Y), minus(Y, Z)))),
    (0, System(3, LINES, (minus(X, Y), minus(Y, Z), minus(X, Z)))), (4, System(3, LINES, (minus(XY, number(2)),))),
    (2, System(2, (LINES[0], plus(minus(YY, times(number(2), XY)), number(2))), ())),
    (2, System(2, (LINES[0], power(plus(minus(YY, times(number(2), XY)), number(2)), 2)), (plus(Y, X),))),
    (4, System(3, (LINES[0], minus(YY, X), plus(minus(ZZ, times(number(2), YZ)), X)), ())),
    (4, System(3, (LINES[0], minus(YY, X), minus(ZZ, X)), (minus(Y, Z),))),
    (None, System(3, (minus(YY, X), minus(ZZ, X)), (minus(Z, Y),))),
    (None, System(3, (minus(YY, X), minus(ZZ, X)), (minus(Z, Y), plus(XY, ONE)))),
    (0, System(3, (minus(YY, X), minus(ZZ, X)), (minus(Z, Y), plus(Z, Y)))),
    (None, System(3, (minus(YY, X), plus(minus(ZZ, times(number(2), YZ)), X)), ())),
    (None, System(3, (minus(times(X, YY), ONE), minus(times(X, ZZ), ONE)), (minus(Z, Y),))),
    (None, System(3, (minus(times(X, YY), ONE), plus(times(X, minus(ZZ, times(number(2), YZ))), ONE)), ())),
    (None, System(3, (minus(times(X, YY), ONE), minus(times(Y, ZZ), ONE)), (minus(XX, Y),))),
    (None, System(3, (minus(times(linear(1, 1), YY), X), times(plus(XY, Z), minus(times(linear(1, 1), ZZ), X))), (minus(Z, Y),))),
    (1, System(2, (minus(XX, X), times(X, minus(YY, ONE)), times(minus(X, ONE), minus(Y, number(3)))), (Y, minus(YY, ONE)))),
    (3, System(2, (minus(XX, X), times(X, minus(YY, ONE)), times(minus(X, ONE), minus(Y, number(3)))), ())),
    (2, System(2, (times(linear(-1, 1), linear(0, 0, 1)), minus(times(linear(-1, 1), YY), Y), minus(YY, times(Y, linear(0, 0, 4)))), ())),
    (2, System(2, (linear(-2, 0, 1), minus(XY, ONE)), (minus(plus(Y, X), number(9)),))),
    (4, System(3, (linear(-2, 0, 1), minus(times(linear(1, 1), Y), ONE), minus(times(plus(X, Y), ZZ), Y)), ())),
    (8, System(3, (LINES[0], minus(YY, times(X, Y)), minus(times(plus(Y, ONE), ZZ), ONE), minus(times(ZZ, Y), minus(ONE, ZZ))), ())),
)


class CoverOfTest(unittest.TestCase):
    def held(self, system):
        """The cover is one, by the tests' judge and by the program's."""
        before = [poly.terms for poly in system.equations + system.barred]
        cover = cover_of(system)
        self.assertIs(type(cover), tuple)
        number_of_fault, found = judged(system, cover)
        self.assertIsNone(number_of_fault)
        self.assertIsNone(cover_fault(system, cover))
        self.assertIs(is_cover(system, cover), True)
        self.assertEqual(leaves(system, cover), found)
        self.assertEqual([poly.terms for poly in system.equations + system.barred], before)
        return cover

    def test_known_systems(self):
        for many, system in KNOWN:
            self.held(system)
            self.assertEqual(roots_told(system), many)

    def test_what_divides_only_over_a_chain(self):
        for many, system in OVER:
            self.held(system)
            self.assertEqual(roots_told(system), many)

    def test_covers_that_were_changed(self):
        dice = Dice(7)
        for _, system in KNOWN + OVER:
            cover = cover_of(system)
            for _ in range(12):
                wrong = changed(dice, cover)
                self.assertEqual(cover_fault(system, wrong), judged(system, wrong)[0])

    def test_equal_calls(self):
        for _, system in KNOWN:
            self.assertEqual(cover_of(system), cover_of(System(system.many, system.equations, system.barred)))

    def test_each_point_is_a_root_of_one_leaf(self):
        for _, system in KNOWN:
            cover = cover_of(system)
            for point in product([(n, 1) for n in (-2, -1, 0, 1, 2, 3)], repeat=system.many):
                parts = leaves(system, cover)
                ones = [at for at, (chain, barred) in enumerate(parts) if is_leaf_root(system.many, chain, barred, point)]
                self.assertEqual(ones, [leaf_of(system, cover, point)] if is_root(system, point) else [])
                self.assertIs(leaf_of(system, cover, point) is None, not is_root(system, point))

    def test_systems_in_one_unknown(self):
        dice = Dice(1)
        for _ in range(60):
            roots = [dice.throw(-2, 2) for _ in range(dice.throw(1, 5))]
            others = [dice.throw(-2, 2) for _ in range(dice.throw(1, 5))]
            bars = [dice.throw(-2, 2) for _ in range(dice.throw(0, 2))]
            system = System(1, (from_roots(roots), from_roots(others)), (from_roots(bars),))
            self.held(system)
            self.assertEqual(roots_told(system), len((set(roots) & set(others)) - set(bars)))

    def test_points_of_a_grid(self):
        dice = Dice(2)
        for _ in range(25):
            xs = [dice.throw(-2, 2) for _ in range(3)]
            ys = [dice.throw(-2, 2) for _ in range(2)]
            line = plus(times(number(dice.throw(1, 3)), X), plus(times(number(dice.throw(-3, 3)), Y), number(dice.throw(-2, 2))))
            equations = (from_roots(xs), in_y(from_roots(ys)))
            points = [(x, y) for x in set(xs) for y in set(ys)]
            on_line = [p for p in points if at_point(line, p) == 0]
            for system, wanted in (
                (System(2, equations, ()), points), (System(2, equations + (line,), ()), on_line),
                (System(2, equations, (line,)), [p for p in points if p not in on_line]),
            ):
                self.held(system)
                self.assertEqual(roots_told(system), len(wanted))

    def test_many_kinds(self):
        dice = Dice(3)
        for _ in range(120):
            many = dice.throw(1, 3)
            equations = tuple([any_poly(dice, many) for _ in range(dice.throw(0, 4))])
            barred = tuple([any_poly(dice, many) for _ in range(max(0, dice.throw(-2, 3)))])
            self.held(System(many, equations, barred))

    def test_dense_systems_have_as_many_roots_as_the_degrees_tell(self):
        dice = Dice(4)
        for many, highs in ((1, (7,)), (2, (2, 2)), (2, (3, 2)), (2, (3, 4)), (3, (1, 2, 2)), (3, (2, 2, 2)), (3, (3, 2, 2))):
            system = System(many, tuple([dense(dice, high, range(many)) for high in highs]), ())
            self.held(system)
            wanted = 1
            for high in highs:
                wanted *= high
            self.assertEqual(roots_told(system), wanted)

    def test_dense_systems_without_an_end_of_roots(self):
        dice = Dice(5)
        for many, highs in ((2, (3,)), (3, (2,)), (3, (2, 2)), (3, (3, 2)), (3, (2, 1)), (3, (3, 3))):
            system = System(many, tuple([dense(dice, high, range(many)) for high in highs]), ())
            self.held(system)
            self.assertIsNone(roots_told(system))

    def test_more_equations_than_unknowns(self):
        dice = Dice(6)
        for many, highs in ((1, (3, 2)), (2, (2, 2, 2)), (3, (2, 2, 2, 1)), (2, (3,) * 6), (3, (1,) * 6)):
            system = System(many, tuple([dense(dice, high, range(many)) for high in highs]), ())
            self.held(system)
            self.assertEqual(roots_told(system), 0)

    def test_six_of_each(self):
        for many in (1, 2, 3):
            unknowns = [X, Y, Z][:many]
            equations = [times(unknown, plus(unknown, number(k))) for k in (1, 2) for unknown in unknowns]
            equations = (equations * 3)[:6]
            barred = [plus(unknown, number(k)) for k in (1, -1) for unknown in unknowns]
            system = System(many, tuple(equations), tuple((barred * 3)[:6]))
            self.held(system)
            self.assertEqual(roots_told(system), 1)

    def test_great_integers(self):
        great = 10 ** 30 - 1
        for system, many in (
            (System(2, (plus(XX, number(great)), minus(times(number(great), XY), number(great - 7))), ()), 2),
            (System(2, (minus(times(number(great), XX), YY), minus(X, number(great))), (minus(Y, number(3)),)), 2),
        ):
            self.held(system)
            self.assertEqual(roots_told(system), many)

    def test_powers_beyond_those_by_hand(self):
        high = power(power(X, 60), 2)
        for system, many in (
            (System(1, (minus(high, ONE), linear(-1, 1)), ()), 1), (System(1, (high,), ()), 1),
            (System(2, (minus(high, Y), linear(-1, 1)), (X,)), 1), (System(1, (high,), (X,)), 0),
        ):
            self.held(system)
            self.assertEqual(roots_told(system), many)


def changed(dice, cover):
    """A cover with steps left out, twice there, exchanged, or with a part of a step changed a little."""
    at, other = dice.throw(0, len(cover) - 1), dice.throw(0, len(cover) - 1)
    kind = dice.throw(0, 8)
    if kind == 0:
        return cover[:at] + cover[at + 1:]
    if kind == 1:
        return cover[:at + 1] + cover[at:]
    if kind == 2:
        low, high = min(at, other), max(at, other)
        return cover[:low] + (cover[high],) + cover[low + 1:high] + (cover[low],) * (low < high) + cover[high + 1:]
    return cover[:at] + ((cover[at][0],) + changed_part(dice, cover[at][1:]),) + cover[at + 1:]


def changed_part(dice, thing):
    if isinstance(thing, Poly):
        return dice.choose([plus(thing, X), times(thing, number(2)), times(thing, number(-1)), NOUGHT, ONE, thing])
    if isinstance(thing, int):
        return thing + dice.throw(-1, 1)
    if not thing:
        return thing
    at = dice.throw(0, len(thing) - 1)
    return thing[:at] + (changed_part(dice, thing[at]),) + thing[at + 1:]


def is_leaf_root(many, chain, barred, point):
    values = [value for value, _ in point] + [0] * (4 - many)
    return all(at_point(poly, values) == 0 for poly in chain) and all(at_point(poly, values) != 0 for poly in barred)


def at_point(poly, values):
    found = 0
    for powers, count in poly.terms:
        for value, high in zip(values, powers):
            count *= value ** high
        found += count
    return found


def from_roots(roots):
    found = ONE
    for root in roots:
        found = times(found, linear(-root, 1))
    return found


def in_y(poly):
    return Poly(tuple([((0, powers[0], 0, 0), count) for powers, count in poly.terms]))


def any_poly(dice, many):
    unknowns = tuple(range(many))
    kind = dice.throw(0, 6)
    if kind == 0:
        return dice.poly(unknowns, 2, 3, 3)
    if kind == 1:
        return dice.poly(unknowns, 1, 4, 5)
    if kind == 2:
        return times(dice.poly(unknowns, 1, 2, 2), dice.poly(unknowns, 1, 2, 2))
    if kind == 3:
        return power(dice.poly(unknowns, 1, 2, 2), dice.throw(1, 3))
    if kind == 4:
        return dense(dice, dice.throw(1, 2), unknowns[:dice.throw(1, many)], 4)
    if kind == 5:
        return times(dice.poly(unknowns, 1, 3, 3), dice.poly(unknowns[:1], 2, 3, 3))
    return minus(power([X, Y, Z][dice.throw(0, many - 1)], dice.throw(2, 6)), dice.poly(unknowns, 1, 2, 3))


if __name__ == "__main__":
    unittest.main()
