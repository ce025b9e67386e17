"""5.1 and 5.2: how many roots there are, what is 0 at all of them, and systems with the same roots."""

import unittest

from boxedroots.covers import cover_fault, leaves
from boxedroots.errors import NoPolynomial, RootError, TooMany, Unlike
from boxedroots.making import cover_of
from boxedroots.numbers import number_of
from boxedroots.polys import Poly, minus, plus, power, times
from boxedroots.systems import System
from boxedroots.telling import has_root, is_endless, many_roots, met, same_roots, vanishes, vanishing
from helping import NOUGHT, ONE, W, X, Y, Z, Dice, linear, nested, odd_things
from judge import judged
from test_making import KNOWN, OVER, XX, XY, YY, ZZ, dense, from_roots, in_y, number

CIRCLE = minus(plus(XX, YY), number(5))
LINE = minus(X, times(number(2), Y))
S = System(2, (CIRCLE, LINE), ())


def refused(test, error, function, *arguments):
    with test.assertRaises(RootError) as caught:
        function(*arguments)
    test.assertIs(type(caught.exception), error)
    test.assertEqual(vars(caught.exception), {"most": 6} if error is TooMany else {})


class ManyTest(unittest.TestCase):
    def test_known_systems(self):
        for many, system in KNOWN + OVER:
            found = many_roots(system)
            self.assertEqual(found, many)
            self.assertIs(type(found), type(many))
            self.assertIs(has_root(system), many != 0)
            self.assertIs(is_endless(system), many is None)

    def test_is_endless_judges_whatever_is_passed(self):
        for thing in odd_things() + [number_of((1, 2)), (S,), [System(1, (), ())], nested(S, 40, lambda part: (part,))]:
            self.assertIs(is_endless(thing), False)

    def test_e02(self):
        self.assertEqual(many_roots(S), 2)
        self.assertIs(is_endless(System(2, (LINE,), ())), True)

    def test_they_hang_on_the_system_alone(self):
        dice = Dice(31)
        for many, system in KNOWN + OVER:
            equations, barred = list(system.equations), list(system.barred)
            equations.reverse()
            barred.reverse()
            turned = System(system.many, tuple([times(number(-3), poly) for poly in equations]), tuple(barred))
            self.assertEqual(many_roots(turned), many)
            if 0 < len(equations) < 6:
                front = dice.poly(tuple(range(system.many)), 1, 2, 3)
                more = System(system.many, system.equations + (times(front, equations[0]),), system.barred)
                self.assertEqual(many_roots(more), many)
                self.assertIs(is_endless(more), many is None)
            if 0 < len(barred) < 6:
                more = System(system.many, system.equations, system.barred + (power(barred[0], 2),))
                self.assertEqual(many_roots(more), many)

    def test_roots_that_are_made(self):
        dice = Dice(32)
        for _ in range(30):
            xs, ys = [{dice.throw(-3, 3) for _ in range(dice.throw(1, 4))} for _ in range(2)]
            bar = {dice.throw(-3, 3) for _ in range(2)}
            system = System(2, (from_roots(sorted(xs) * 2), in_y(from_roots(sorted(ys)))), (from_roots(sorted(bar)),))
            wanted = len(xs - bar) * len(ys)
            self.assertEqual(many_roots(system), wanted)
            self.assertIs(has_root(system), wanted > 0)
            self.assertIs(is_endless(system), False)

    def test_complex_ones_count(self):
        for high in (1, 2, 5, 12, 60):
            self.assertEqual(many_roots(System(1, (minus(power(X, high), number(-7)),), ())), high)
        self.assertEqual(many_roots(System(3, (plus(XX, ONE), plus(YY, X), plus(ZZ, Y)), ())), 8)

    def test_dense_ones(self):
        dice = Dice(33)
        for many, highs in ((2, (3, 3)), (3, (2, 2, 2)), (3, (3, 2, 1))):
            wanted = 1
            for high in highs:
                wanted *= high
            self.assertEqual(many_roots(System(many, tuple([dense(dice, h, range(many)) for h in highs]), ())), wanted)

    def test_what_went_in_is_unchanged(self):
        before = [poly.terms for poly in S.equations]
        for function in (many_roots, has_root, is_endless):
            self.assertEqual(function(S), function(System(2, (CIRCLE, LINE), ())))
        self.assertEqual([poly.terms for poly in S.equations], before)


class VanishingTest(unittest.TestCase):
    def held(self, system, poly, wanted):
        self.assertIs(vanishes(system, poly), wanted)
        if len(system.barred) == 6:
            refused(self, TooMany, vanishing, system, poly)
            return
        cover = vanishing(system, poly)
        if not wanted:
            self.assertIsNone(cover)
            return
        self.assertIs(type(cover), tuple)
        more = System(system.many, system.equations, system.barred + (poly,))
        self.assertIsNone(cover_fault(more, cover))
        self.assertEqual(leaves(more, cover), [])
        self.assertEqual(judged(more, cover), (None, []))
        self.assertEqual(vanishing(system, poly), cover)

    def test_known_ones(self):
        for wanted, poly in (
            (True, linear(-4, 0, 1)), (True, CIRCLE), (True, minus(YY, ONE)), (True, NOUGHT), (True, minus(XY, number(2))),
            (True, times(LINE, plus(Y, number(7)))), (False, linear(-2, 1)), (False, ONE), (False, plus(X, Y)),
            (False, linear(-3, 0, 1)), (False, number(-9)),
        ):
            self.held(S, poly, wanted)

    def test_e02(self):
        self.assertIs(vanishes(S, minus(YY, ONE)), True)

    def test_doubles_endless_ones_and_none(self):
        for wanted, system, poly in (
            (True, System(1, (power(X, 5),), ()), X), (True, System(2, (power(minus(Y, XX), 3),), ()), minus(Y, XX)),
            (False, System(2, (XY,), ()), X), (True, System(2, (XY,), (Y,)), X), (False, System(1, (), ()), X),
            (True, System(1, (), ()), NOUGHT), (True, System(1, (ONE,), ()), X), (True, System(1, (X,), (X,)), ONE),
            (True, System(2, (plus(XX, YY), minus(X, Y)), ()), X), (False, System(2, (plus(XX, YY),), ()), X),
            (True, System(3, (minus(XX, YY), minus(YY, ZZ)), (minus(X, Y), minus(Y, Z))), plus(X, Y)),
            (True, System(3, (minus(XX, YY), minus(YY, ZZ)), (minus(X, Y), minus(Y, Z))), minus(X, Z)),
            (False, System(3, (minus(XX, YY), minus(YY, ZZ)), (minus(X, Y),)), minus(X, Z)),
            (False, System(2, (times(X, plus(XX, ONE)),), ()), X),
        ):
            self.held(system, poly, wanted)

    def test_six_and_seven_barred_ones(self):
        bars = tuple([linear(-k, 1) for k in range(5)])
        five = System(1, (from_roots(range(7)),), bars)
        six = System(1, (from_roots(range(7)),), bars + (linear(-5, 1),))
        for wanted, poly in ((False, linear(-6, 1)), (False, linear(-5, 1)), (True, from_roots((5, 6))), (False, ONE)):
            self.held(five, poly, wanted)
        for wanted, poly in ((True, linear(-6, 1)), (False, linear(-5, 1)), (True, NOUGHT), (False, number(2))):
            self.held(six, poly, wanted)

    def test_wrong_ones(self):
        six = System(2, (), (ONE,) * 6)
        for system in (S, six):
            for poly in (Z, W, plus(X, Z), times(Y, W)):
                refused(self, NoPolynomial, vanishing, system, poly)
                refused(self, NoPolynomial, vanishes, system, poly)
            for thing in odd_things() + [number_of((1, 2)), S, nested(X, 40, lambda part: (part,))]:
                if not isinstance(thing, Poly):
                    refused(self, NoPolynomial, vanishing, system, thing)
                    refused(self, NoPolynomial, vanishes, system, thing)
        refused(self, NoPolynomial, vanishes, System(1, (), ()), Y)
        refused(self, TooMany, vanishing, six, X)
        self.assertIs(vanishes(six, X), False)


class SameTest(unittest.TestCase):
    def test_same_roots_by_other_equations(self):
        for one, other in (
            (S, System(2, (minus(YY, ONE), LINE), ())), (S, System(2, (power(LINE, 2), times(CIRCLE, CIRCLE)), ())),
            (S, System(2, (LINE, CIRCLE, linear(-4, 0, 1), minus(XY, number(2))), (X, Y, ONE))),
            (System(1, (X,), (X,)), System(1, (ONE,), ())), (System(2, (), ()), System(2, (NOUGHT,), (number(3),))),
            (System(2, (XY,), ()), System(2, (times(XX, Y),), ())), (System(2, (XY,), (X,)), System(2, (Y,), (X,))),
            (System(2, (X,), (Y,)), System(2, (X,), (plus(X, Y), YY))),
            (System(1, (from_roots(range(7)),), tuple([linear(-k, 1) for k in range(6)])), System(1, (linear(-6, 1),), ())),
            (System(1, (X,) * 6, (ONE,) * 6), System(1, (times(X, number(5)),), ())),
            (System(3, (plus(XX, plus(YY, ZZ)), plus(X, plus(Y, Z))), ()),
             System(3, (plus(times(X, Y), plus(times(Y, Z), times(X, Z))), plus(X, plus(Y, Z))), ())),
        ):
            self.assertIs(same_roots(one, other), True)
            self.assertIs(same_roots(other, one), True)
            self.assertIs(same_roots(one, one), True)

    def test_unlike_roots(self):
        for one, other in (
            (S, System(2, (CIRCLE, LINE), (linear(-2, 1),))), (S, System(2, (LINE,), ())), (S, System(2, (), ())),
            (S, System(2, (ONE,), ())), (System(2, (XY,), ()), System(2, (X,), ())), (System(2, (XY,), (X,)), System(2, (Y,), ())),
            (System(1, (plus(XX, ONE),), ()), System(1, (ONE,), ())), (System(1, (X,), ()), System(1, (linear(1, 1),), ())),
            (System(1, (times(X, plus(XX, ONE)),), ()), System(1, (X,), ())),
            (System(1, (), (X,)), System(1, (), ())), (System(3, (), (X,)), System(3, (), (Y,))),
            (System(1, (X,) * 6, ()), System(1, (linear(1, 1),) * 6, (ONE,) * 6)),
        ):
            self.assertIs(same_roots(one, other), False)
            self.assertIs(same_roots(other, one), False)

    def test_unlike_numbers_of_unknowns(self):
        systems = [System(many, (), ()) for many in (1, 2, 3)]
        for one in systems:
            for other in systems:
                if one.many != other.many:
                    refused(self, Unlike, same_roots, one, other)
                    refused(self, Unlike, met, one, other)


class MetTest(unittest.TestCase):
    def test_both(self):
        one, other = System(2, (CIRCLE, LINE, CIRCLE), (X, X)), System(2, (XY, LINE), (Y, X, ONE))
        found = met(one, other)
        self.assertIs(type(found), System)
        self.assertEqual((found.many, found.equations, found.barred), (2, (CIRCLE, LINE, XY), (X, Y, ONE)))
        found = met(other, one)
        self.assertEqual((found.equations, found.barred), ((XY, LINE, CIRCLE), (Y, X, ONE)))
        self.assertEqual(met(System(1, (), ()), System(1, (), ())), System(1, (), ()))
        self.assertEqual(met(one, one), System(2, (CIRCLE, LINE), (X,)))
        self.assertEqual(one, System(2, (CIRCLE, LINE, CIRCLE), (X, X)))

    def test_the_roots_are_those_of_both(self):
        one, other = System(1, (from_roots((1, 2, 3)),), ()), System(1, (from_roots((2, 3, 4)),), (linear(-3, 1),))
        self.assertIs(same_roots(met(one, other), System(1, (linear(-2, 1),), ())), True)

    def test_six_and_seven(self):
        lines = [linear(-k, 1) for k in range(8)]
        six = met(System(1, tuple(lines[:4]), tuple(lines[:6])), System(1, tuple(lines[2:6]), tuple(lines[:3])))
        self.assertEqual((six.equations, six.barred), (tuple(lines[:6]), tuple(lines[:6])))
        refused(self, TooMany, met, System(1, tuple(lines[:6]), ()), System(1, (lines[6],), ()))
        refused(self, TooMany, met, System(1, (), tuple(lines[:6])), System(1, (), (lines[6],)))
        refused(self, TooMany, met, System(1, tuple(lines[:6]), tuple(lines[:6])), System(1, tuple(lines[2:]), tuple(lines[2:])))
        refused(self, Unlike, met, System(1, tuple(lines[:6]), ()), System(2, (lines[6],), ()))
        self.assertEqual(len(met(System(1, (X,) * 6, ()), System(1, tuple(lines[:6]), ())).equations), 6)

    def test_no_systems(self):
        for thing in odd_things():
            refused(self, Unlike, met, S, thing)
            refused(self, Unlike, same_roots, thing, S)


class CoverTest(unittest.TestCase):
    def test_leaves_are_those_of_the_cover(self):
        for many, system in KNOWN:
            found = leaves(system, cover_of(system))
            self.assertIs(has_root(system), bool(found))
            self.assertIs(is_endless(system), any(len(chain) < system.many for chain, _ in found))
            self.assertEqual(many is None, any(len(chain) < system.many for chain, _ in found))


if __name__ == "__main__":
    unittest.main()
