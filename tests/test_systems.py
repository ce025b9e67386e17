"""2.1: systems, and their roots among the fractions."""

import unittest
from fractions import Fraction
from itertools import product

from boxedroots.errors import BadSystem, RootError
from boxedroots.polys import Poly, minus, number_poly, plus, power, times
from boxedroots.systems import System, is_root
from helping import NOUGHT, ONE, W, X, Y, Z, Dice, linear, nested, odd_things, pair

CIRCLE = minus(plus(power(X, 2), power(Y, 2)), number_poly(5))
LINE = minus(X, times(number_poly(2), Y))


class SystemTest(unittest.TestCase):
    def refused(self, part, *arguments):
        with self.assertRaises(BadSystem) as caught:
            System(*arguments)
        self.assertIs(type(caught.exception), BadSystem)
        self.assertEqual(caught.exception.part, part)
        self.assertIs(type(caught.exception.part), type(part))

    def test_attributes(self):
        for many, equations, barred in (
            (1, (), ()), (2, (CIRCLE, LINE), (X,)), (3, (X, Y, Z, X, Y, Z), (X, Y, Z, X, Y, Z)),
            (1, (NOUGHT, ONE), (NOUGHT, number_poly(-3))), (2, (power(power(X, 60), 60),), ()),
        ):
            system = System(many, equations, barred)
            self.assertEqual((system.many, system.equations, system.barred), (many, equations, barred))
            self.assertIs(type(system.equations), tuple)
            self.assertIs(type(system.barred), tuple)

    def test_many(self):
        for many in (0, 4, -1, True, False, None, "2", (2,), 10 ** 30, b"1"):
            self.refused("many", many, (), ())
        for thing in odd_things():
            self.refused("many", thing, (), ())
        self.refused("many", 4, None, None)
        self.refused("many", True, (X,), ())

    def test_equations(self):
        self.refused("equations", 2, [X], ())
        self.refused("equations", 2, (X,) * 7, ())
        self.refused("equations", 2, (None,) * 7, ())
        self.refused("equations", 2, None, (Z,))
        System(2, (X,) * 6, ())
        for thing in odd_things():
            if type(thing) is not tuple:
                self.refused("equations", 3, thing, ())

    def test_single_equations(self):
        self.refused(("equation", 0), 1, (Y,), ())
        self.refused(("equation", 1), 2, (X, Z, W), ())
        self.refused(("equation", 2), 3, (X, Z, W), None)
        self.refused(("equation", 5), 1, (X,) * 5 + (0,), ())
        self.refused(("equation", 0), 2, (times(X, Z),), (1,))
        for thing in odd_things():
            if type(thing) is not Poly:
                self.refused(("equation", 1), 3, (X, thing), ())
        self.refused(("equation", 0), 3, (nested(X, 39, lambda thing: (thing,)),), ())
        self.refused(("equation", 0), 3, (System(1, (), ()),), ())

    def test_barred(self):
        self.refused("barred", 2, (X,), [X])
        self.refused("barred", 2, (X,), (X,) * 7)
        System(2, (), (X,) * 6)
        self.refused(("barred", 0), 1, (X,), (Y,))
        self.refused(("barred", 3), 3, (X,), (X, Y, Z, W))
        for thing in odd_things():
            if type(thing) is not tuple:
                self.refused("barred", 3, (), thing)
            if type(thing) is not Poly:
                self.refused(("barred", 2), 3, (), (X, Y, thing))

    def test_order_of_errors(self):
        self.refused("many", 5, [X], [X])
        self.refused("equations", 1, [X], [X])
        self.refused(("equation", 0), 1, (Y,), [X])
        self.refused("barred", 1, (X,), [X])
        self.assertTrue(issubclass(BadSystem, RootError))

    def test_equal(self):
        system = System(2, (CIRCLE, LINE), (X,))
        self.assertTrue(system == System(2, (CIRCLE, LINE), (X,)))
        self.assertFalse(system != System(2, (CIRCLE, LINE), (X,)))
        for other in (
            System(3, (CIRCLE, LINE), (X,)), System(2, (LINE, CIRCLE), (X,)), System(2, (CIRCLE, LINE), (Y,)),
            System(2, (CIRCLE, LINE), ()), System(2, (CIRCLE,), (X,)), System(2, (CIRCLE, LINE, X), ()),
        ):
            self.assertFalse(system == other)
        for thing in odd_things() + [(2, (CIRCLE, LINE), (X,))]:
            self.assertFalse(system == thing)
            self.assertFalse(thing == system)

    def test_what_went_in_is_unchanged(self):
        equations, barred = (CIRCLE, LINE), (X, Y)
        before = [poly.terms for poly in equations + barred]
        System(2, equations, barred)
        self.assertEqual([poly.terms for poly in equations + barred], before)


class IsRootTest(unittest.TestCase):
    def test_known_roots(self):
        system = System(2, (CIRCLE, LINE), ())
        for point in (((2, 1), (1, 1)), ((-2, 1), (-1, 1))):
            self.assertIs(is_root(system, point), True)
        for point in (((2, 1), (-1, 1)), ((1, 1), (2, 1)), ((0, 1), (0, 1)), ((1, 1), (1, 2))):
            self.assertIs(is_root(system, point), False)
        self.assertIs(is_root(System(2, (CIRCLE, LINE), (plus(X, number_poly(2)),)), ((2, 1), (1, 1))), True)
        self.assertIs(is_root(System(2, (CIRCLE, LINE), (minus(X, number_poly(2)),)), ((2, 1), (1, 1))), False)
        self.assertIs(is_root(System(1, (linear(-1, 2),), ()), ((1, 2),)), True)
        self.assertIs(is_root(System(3, (), ()), ((1, 2), (-3, 4), (0, 1))), True)
        self.assertIs(is_root(System(3, (), (NOUGHT,)), ((1, 2), (-3, 4), (0, 1))), False)
        self.assertIs(is_root(System(3, (NOUGHT, times(X, minus(Y, Z))), (ONE,)), ((5, 2), (1, 3), (1, 3))), True)
        self.assertIs(is_root(System(3, (ONE,), ()), ((5, 2), (1, 3), (1, 3))), False)

    def test_against_fractions(self):
        dice = Dice(11)
        for _ in range(30):
            equations = (times(dice.poly((0, 1), 2, 3, 2), dice.poly((0, 1), 1, 2, 2)),)
            system = System(2, equations, (dice.poly((0, 1), 1, 2, 2),))
            for x, y in product([Fraction(n, d) for n in range(-2, 3) for d in (1, 2)], repeat=2):
                worths = [
                    sum(c * x ** p[0] * y ** p[1] for p, c in poly.terms) for poly in equations + system.barred
                ]
                self.assertIs(is_root(system, (pair(x), pair(y))), worths[0] == 0 and worths[1] != 0)

    def test_what_is_no_point(self):
        system = System(2, (), ())
        good = (1, 2)
        for thing in (
            (good,), (good, good, good), [good, good], (good, (2, 4)), (good, [1, 2]), (good, 1), (), good,
            (good, (1, 0)), (good, (1, -2)), (good, (True, 2)), ((0, 1), (0, 2)), {0: good, 1: good},
        ):
            self.assertIs(is_root(system, thing), False)
        self.assertIs(is_root(system, (good, good)), True)
        for thing in odd_things():
            self.assertIs(is_root(system, thing), False)
            self.assertIs(is_root(system, (good, thing)), thing == (0, 1))
        self.assertIs(is_root(system, (good, good, (0, 1))), False)


if __name__ == "__main__":
    unittest.main()
