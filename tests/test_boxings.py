"""7.1 and 7.2: boxings, held against the words of 7.1 by the tests' own judge."""

import unittest
from fractions import Fraction

from boxedroots.boxings import boxes, boxing_fault, boxing_of, is_boxing
from boxedroots.chains import is_regular
from boxedroots.errors import NoBoxing, NoChain, RootError
from boxedroots.making import cover_of
from boxedroots.covers import leaves
from boxedroots.numbers import number_of
from boxedroots.polys import Poly, minus, plus, power, times
from boxedroots.systems import System
from boxjudge import own_boxes, own_fault
from helping import NOUGHT, ONE, W, X, Y, Z, Dice, linear, nested, odd_things, pair, total
from test_making import KNOWN, OVER, XX, XY, YY, ZZ, dense, from_roots, number

TWO = linear(-2, 0, 1)
HAND = (2, (((-2, 1), (-1, 1), ()), ((-1, 1), (1, 1), None), ((1, 1), (2, 1), ())))
# y is x and z is y ** 2 - 1, over both roots of x ** 2 - 2.
PAIR = (TWO, minus(Y, X))
LOW, HIGH = ((-2, 1), (-1, 1)), ((1, 1), (2, 1))
OVER_LOW = (3, (((-3, 1), (3, 1), ()),))
PAIRED = (2, (LOW + (OVER_LOW,), ((-1, 1), (1, 1), None), HIGH + (OVER_LOW,)))


def refused(test, error, function, *arguments):
    with test.assertRaises(RootError) as caught:
        function(*arguments)
    test.assertIs(type(caught.exception), error)
    test.assertEqual(vars(caught.exception), {})


class BoxingTest(unittest.TestCase):
    def fault(self, chain, thing, wanted):
        found = boxing_fault(chain, thing)
        self.assertEqual(found, wanted)
        self.assertEqual(own_fault(chain, thing), wanted)
        self.assertIs(is_boxing(chain, thing), wanted is None)
        if wanted is not None:
            self.assertIs(type(found), tuple)
            refused(self, NoBoxing, boxes, chain, thing)

    def test_e04_and_by_hand(self):
        self.assertIs(is_boxing((TWO,), HAND), True)
        self.fault((TWO,), HAND, None)
        self.assertEqual(boxes((TWO,), HAND), [(LOW,), (HIGH,)])
        self.fault(PAIR, PAIRED, None)
        self.assertEqual(boxes(PAIR, PAIRED), [(LOW, ((-3, 1), (3, 1))), (HIGH, ((-3, 1), (3, 1)))])
        self.fault((linear(1, 0, 1),), (1, (((-1, 1), (0, 1), None), ((0, 1), (1, 1), None))), None)
        self.assertEqual(boxes((linear(1, 0, 1),), (1, (((-1, 1), (0, 1), None), ((0, 1), (1, 1), None)))), [])
        self.fault((X,), (1, (((-1, 1), (1, 1), ()),)), None)
        self.fault((TWO,), (10 ** 30 - 1, (((-10 ** 30 + 1, 1), (-1, 1), ()), HAND[1][1], ((1, 1), (10 ** 30 - 1, 1), ()))), None)

    def test_three_unknowns_by_hand(self):
        chain = PAIR + (minus(Z, minus(YY, ONE)),)
        over_y = (11, (((-11, 1), (11, 1), ()),))
        thing = (2, (
            LOW + ((3, (((-3, 1), (3, 1), over_y),)),), ((-1, 1), (1, 1), None), HIGH + ((3, (((-3, 1), (3, 1), over_y),)),),
        ))
        self.fault(chain, thing, None)
        self.assertEqual(len(boxes(chain, thing)), 2)
        wrong = (2, (thing[1][0], thing[1][1], HIGH + ((3, (((-3, 1), (3, 1), (10, over_y[1])),)),)))
        self.fault(chain, wrong, (2, 0, "bound"))
        wrong = (2, (LOW + ((3, (((-3, 1), (3, 1), (11, (((-11, 1), (11, 1), None),))),)),),) + thing[1][1:])
        self.fault(chain, wrong, (0, 0, 0, "sign"))
        wrong = (2, (LOW + ((3, (((-3, 1), (3, 1), (11, (((-11, 1), (11, 1), (1, ())),))),)),),) + thing[1][1:])
        self.fault(chain, wrong, (0, 0, 0, "pieces"))
        wrong = (2, (LOW + ((3, (((-3, 1), (3, 1), ()),)),),) + thing[1][1:])
        self.fault(chain, wrong, (0, 0, "pieces"))

    def test_no_pair(self):
        for thing in (
            None, (), (2,), HAND + (1,), list(HAND), 2, "", {}, (HAND,), nested((), 40, lambda part: (part,)), True,
        ):
            self.fault((TWO,), thing, ("pieces",))
        for thing in odd_things() + [number_of((1, 2)), System(1, (), ()), nested(number_of((1, 2)), 40, lambda p: (p,))]:
            if type(thing) is not tuple or len(thing) != 2:
                self.fault((TWO,), thing, ("pieces",))

    def test_the_bound(self):
        for bound in (0, -1, 1, True, None, "2", (2, 1), -10 ** 29):
            self.fault((TWO,), (bound, HAND[1]), ("bound",))
            self.fault((TWO,), (bound, None), ("bound",))
        for thing in odd_things():
            if type(thing) is not int or thing < 2:
                self.fault((TWO,), (thing, HAND[1]), ("bound",))
        self.fault((linear(-2, 1),), (2, (((-2, 1), (2, 1), None),)), ("bound",))
        for bound, wanted in ((1, (0, "bound")), (2, (0, "bound")), (3, None)):
            below = (bound, (((-bound, 1), (bound, 1), ()),))
            self.fault(PAIR, (2, (LOW + (below,), PAIRED[1][1], PAIRED[1][2])), wanted)

    def test_the_pieces(self):
        one, two, three = HAND[1]
        for pieces in (
            (), (one, two), (two, three), (one, three), (one, two, two, three), (three, two, one), (two, one, three),
            (one, two, three, three), [one, two, three], (list(one), two, three), (one, two, three[:2]), (one + (1,), two, three),
            None, 5, "", (None,), (one, None, three), (one, two, ((1, 1), (4, 2), ())), (((-2, 1), [-1, 1], ()), two, three),
            (((-2, 1), (-1, 1), ()), ((-1, 1), (-1, 1), None), two, three), (((-1, 1), (-2, 1), ()), two, three),
            (one, two, ((1, 1), (3, 1), ())), (((-3, 1), (-1, 1), ()), two, three), (one, ((-1, 1), (2, 1), None), three),
            (((True, 1), (-1, 1), ()), two, three), (one, ((-1, 1), (True, 1), None), three), ((one, two, three),),
        ):
            self.fault((TWO,), (2, pieces), ("pieces",))
        for thing in odd_things():
            self.fault((TWO,), (2, thing), ("pieces",))
            self.fault((TWO,), (2, (one, thing, three)), ("pieces",))
            if thing != (0, 1):
                self.fault((TWO,), (2, (one, ((-1, 1), thing, None), (thing, (2, 1), ()))), ("pieces",))

    def test_the_signs(self):
        one, two, three = HAND[1]
        for pieces, at in (
            ((one, two, three[:2] + (None,)), 2), ((one[:2] + (None,), two, three), 0), ((one, two[:2] + ((),), three), 1),
            ((one, two[:2] + (None,), three[:2] + (None,)), 2), ((one[:2] + (None,), two, three[:2] + (None,)), 0),
            ((((-2, 1), (1, 1), ()), three), 0), ((((-2, 1), (0, 1), ()), ((0, 1), (2, 1), ())), 0),
            ((((-2, 1), (2, 1), None),), 0), ((((-2, 1), (-3, 2), ()), ((-3, 2), (-1, 1), None), two, three), 0),
        ):
            self.fault((TWO,), (2, pieces), (at, "sign"))
        for thing in odd_things():
            if thing is not None:
                self.fault((TWO,), (2, (one, two[:2] + (thing,), three)), (1, "sign"))

    def test_a_root_at_an_end(self):
        chain = (times(X, linear(-1, 1)),)
        piece = ((1, 1), (3, 1), None)
        self.fault(chain, (3, (((-3, 1), (1, 3), ()), ((1, 3), (2, 3), None), ((2, 3), (3, 1), ()))), None)
        self.fault(chain, (3, (((-3, 1), (0, 1), ()), ((0, 1), (3, 1), ()))), (0, "sign"))
        self.fault(chain, (3, (((-3, 1), (1, 3), ()), ((1, 3), (1, 1), None), piece)), (1, "sign"))
        self.fault(chain, (3, (((-3, 1), (1, 3), ()), ((1, 3), (2, 3), None), ((2, 3), (1, 1), ()), piece)), (2, "sign"))

    def test_what_is_below(self):
        for below in (1, "", (1, ()), [], ((),), HAND):
            self.fault((TWO,), (2, (LOW + (below,), HAND[1][1], HAND[1][2])), (0, "pieces"))
            self.fault((TWO,), (2, (HAND[1][0], HAND[1][1], HIGH + (below,))), (2, "pieces"))
        for thing in odd_things():
            if thing is not None:
                self.fault((TWO,), (2, (LOW + (thing,), HAND[1][1], HAND[1][2])), (0, "pieces"))
                if type(thing) is not tuple or len(thing) != 2:
                    self.fault(PAIR, (2, (LOW + (thing,), PAIRED[1][1], PAIRED[1][2])), (0, "pieces"))
        self.fault(PAIR, HAND, (0, "pieces"))

    def test_a_piece_and_what_is_below_it_come_ahead_of_the_next_one(self):
        wrong = LOW + ((3, (((-3, 1), (3, 1), None),)),)
        self.fault(PAIR, (2, (wrong, PAIRED[1][1][:2] + ((),), PAIRED[1][2])), (0, 0, "sign"))
        self.fault(PAIR, (2, (wrong, PAIRED[1][1], HIGH + (None,))), (0, 0, "sign"))
        self.fault(PAIR, (2, (PAIRED[1][0], PAIRED[1][1][:2] + ((),), HIGH + (None,))), (1, "sign"))
        self.fault(PAIR, (2, (PAIRED[1][0], PAIRED[1][1], HIGH + (None,))), (2, "sign"))
        self.fault(PAIR, (2, (LOW + ((3, ()),), PAIRED[1][1], HIGH + (None,))), (0, "pieces"))

    def test_counts_over_the_whole_box(self):
        chain = (TWO, minus(YY, X))
        over = (2, (((-2, 1), (-1, 2), ()), ((-1, 2), (1, 2), None), ((1, 2), (2, 1), ())))
        nothing = (2, (((-2, 1), (0, 1), None), ((0, 1), (2, 1), None)))
        thing = (2, (LOW + (nothing,), ((-1, 1), (1, 1), None), HIGH + (over,)))
        self.fault(chain, thing, None)
        self.assertEqual(boxes(chain, thing), [(HIGH, ((-2, 1), (-1, 2))), (HIGH, ((1, 2), (2, 1)))])
        low = (2, (((-2, 1), (-1, 1), ()), ((-1, 1), (1, 2), None), ((1, 2), (2, 1), ())))
        self.fault(chain, (2, thing[1][:2] + (HIGH + (low,),)), (2, 0, "sign"))


class NoChainTest(unittest.TestCase):
    def test_what_is_no_finite_chain(self):
        for chain in (
            (), [TWO], (Y,), (X, Z), (Y, X), (X, X), (ONE,), (NOUGHT,), (X, ONE), (X, Y, Z, W), (Z,), (X, Y, W), TWO, None,
            (X, None), (X, Y, NOUGHT), (plus(X, Y),), ((X,),), "", 3, (1,),
        ):
            for function in (boxing_fault, is_boxing, boxes):
                refused(self, NoChain, function, chain, HAND)
                refused(self, NoChain, function, chain, None)
            refused(self, NoChain, boxing_of, chain)
        for thing in odd_things() + [number_of((1, 2)), System(1, (X,), ()), nested(X, 40, lambda part: (part,))]:
            for function in (boxing_fault, is_boxing, boxes):
                refused(self, NoChain, function, thing, HAND)
            refused(self, NoChain, boxing_of, thing)
            if not isinstance(thing, Poly):
                refused(self, NoChain, boxing_of, (X, thing))

    def test_chains_that_are_not_regular(self):
        for chain in (
            (XX,), (power(linear(-1, 1), 3),), (times(linear(0, 1), linear(0, 1, 1)),), (X, XY), (TWO, times(TWO, Y)),
            (TWO, plus(YY, times(X, plus(Y, Y)))), (X, Y, power(minus(Z, Y), 2)), (TWO, minus(YY, TWO)),
        ):
            if is_regular(len(chain), chain):
                continue
            refused(self, NoChain, boxing_of, chain)
        refused(self, NoChain, boxing_of, (XX,))
        refused(self, NoChain, boxing_of, (X, XY))
        refused(self, NoChain, boxing_of, (X, Y, ZZ))
        # It is a finite chain all the same, and may be asked about.
        self.assertEqual(boxing_fault((XX,), HAND), (0, "sign"))
        self.assertEqual(boxing_fault((times(XX, TWO),), (2, HAND[1])), (0, "sign"))
        halves = (((-1, 1), (0, 1), None), ((0, 1), (1, 1), None))
        self.assertIsNone(boxing_fault((power(linear(1, 0, 1), 2),), (1, halves)))

    def test_order_of_errors(self):
        refused(self, NoChain, boxes, (Y,), None)
        refused(self, NoBoxing, boxes, (X,), None)


class MadeTest(unittest.TestCase):
    def held(self, chain, real=None):
        """What boxing_of tells is a boxing, by both judges, with so many boxes; the ends of these part the roots."""
        before = [poly.terms for poly in chain]
        thing = boxing_of(chain)
        self.assertIsNone(own_fault(chain, thing))
        self.assertIsNone(boxing_fault(chain, thing))
        found = boxes(chain, thing)
        self.assertIs(type(found), list)
        self.assertEqual(found, own_boxes(thing))
        worths = [[(Fraction(*low), Fraction(*high)) for low, high in box] for box in found]
        self.assertEqual(worths, sorted(worths))
        if real is not None:
            self.assertEqual(len(found), real)
        self.assertEqual(boxing_of(tuple([Poly(poly.terms) if len(poly.terms) < 300 else poly for poly in chain])), thing)
        self.assertEqual([poly.terms for poly in chain], before)
        return worths

    def test_roots_that_are_known(self):
        dice = Dice(41)
        for _ in range(25):
            roots = sorted({Fraction(*dice.fraction()) for _ in range(dice.throw(1, 6))})
            poly = number(dice.throw(1, 5))
            for root in roots:
                poly = times(poly, linear(-root.numerator, root.denominator))
            for _ in range(dice.throw(0, 2)):
                poly = times(poly, linear(dice.throw(2, 9), dice.throw(-2, 2), 1 + dice.throw(0, 1)))
            if is_regular(1, (poly,)):
                found = self.held((poly,), len(roots))
                for root, ((low, high),) in zip(roots, found):
                    self.assertTrue(low < root < high)

    def test_one_unknown(self):
        for poly, real in (
            (X, 1), (TWO, 2), (linear(2, 0, 1), 0), (linear(0, -1, 0, 1), 3), (minus(power(X, 60), ONE), 2),
            (minus(power(X, 41), number(10 ** 29)), 1), (from_roots(range(-7, 8)), 15), (linear(-10 ** 30 + 1, 1), 1),
            (times(linear(-1, 1), linear(-10 ** 20 - 1, 10 ** 20)), 2), (linear(-1, 10 ** 30 - 1), 1),
            (minus(power(X, 20), power(linear(-1, 100), 2)), 4), (minus(times(X, X), number(10 ** 29)), 2),
            (plus(times(TWO, TWO), linear(1, 10 ** 6)), 2), (times(minus(power(X, 3), X), plus(power(X, 4), ONE)), 3),
        ):
            self.held((poly,), real)

    def test_three_unknowns(self):
        for chain, real in (
            ((X, Y, Z), 1), ((TWO, minus(YY, X), minus(ZZ, Y)), 2), ((TWO, minus(YY, ONE), minus(ZZ, ONE)), 8),
            ((TWO, minus(XY, ONE), minus(times(plus(X, Y), Z), ONE)), 2), ((TWO, plus(YY, X), plus(ZZ, ONE)), 0),
            ((linear(-1, 0, 1), minus(times(plus(X, number(3)), YY), ONE), minus(power(Z, 3), total([X, Y, Z]))), 6),
            ((from_roots((0, 1, 2)), minus(Y, X), minus(Z, times(Y, Y))), 3), ((minus(power(X, 3), number(2)), minus(YY, X)), 2),
            ((TWO, minus(Y, times(number(10 ** 9), X)), minus(Z, times(number(10 ** 9), Y))), 2),
            ((TWO, minus(times(number(10 ** 9), Y), X), minus(power(Z, 3), Y)), 2), ((TWO, total([YY, times(X, Y), ONE])), 0),
            ((linear(-1, 2), minus(times(YY, Y), Y), times(minus(Z, X), minus(Z, plus(Y, ONE)))), 6),
        ):
            self.held(chain, real)

    def test_heights_that_only_a_narrow_box_shows(self):
        # Over x the next polynomial has two roots of y that are near each other, or that all but meet.
        near = plus(minus(YY, times(number(2), Y)), plus(ONE, minus(times(number(10 ** 6), TWO), number(0))))
        self.held((minus(times(number(10 ** 12), XX), ONE), minus(YY, X)), 2)
        self.held((TWO, times(minus(Y, X), minus(times(number(10 ** 9), Y), plus(times(number(10 ** 9), X), ONE)))), 4)
        self.assertFalse(is_regular(2, (TWO, near)))

    def test_leaves_of_systems(self):
        for many, system in KNOWN + OVER:
            if many is not None:
                for chain, _ in leaves(system, cover_of(system)):
                    self.held(chain)

    def test_dense_systems(self):
        dice = Dice(42)
        for many, highs in ((2, (2, 2)), (2, (3, 3)), (3, (2, 2, 1)), (3, (2, 2, 2))):
            for _ in range(2):
                system = System(many, tuple([dense(dice, high, range(many)) for high in highs]), ())
                for chain, _ in leaves(system, cover_of(system)):
                    self.held(chain)

    def test_the_roots_are_in_the_boxes(self):
        dice = Dice(43)
        for _ in range(10):
            xs = sorted({dice.throw(-4, 4) for _ in range(3)})
            ys = sorted({dice.throw(-4, 4) for _ in range(3)})
            front = dice.throw(-2, 2)
            second = ONE
            for y in ys:
                second = times(second, minus(Y, plus(number(y), times(number(front), X))))
            found = self.held((from_roots(xs), second), len(xs) * len(ys))
            points = [(x, y + front * x) for x in xs for y in ys]
            for point, box in zip(sorted(points), found):
                self.assertTrue(all(low < place < high for place, (low, high) in zip(point, box)))

    def test_bounds_and_ends_are_as_they_are_to_be(self):
        thing = boxing_of((from_roots((-3, 0, 2)),))
        self.assertIs(type(thing), tuple)
        self.assertEqual(len(thing), 2)
        self.assertIs(type(thing[0]), int)
        for low, high, below in thing[1]:
            self.assertEqual((pair(Fraction(*low)), pair(Fraction(*high))), (low, high))
            self.assertIn(below, (None, ()))


class NestedTest(unittest.TestCase):
    def test_deep_and_long_things(self):
        long_one = (2, tuple([((k, 1), (k + 1, 1), None) for k in range(-2, 6000)]))
        self.assertEqual(boxing_fault((TWO,), long_one), ("pieces",))
        self.assertEqual(boxing_fault((TWO,), (6000, ((-6000, 1), (-2, 1), None),)), ("pieces",))
        long_one = (3000, tuple([((k, 1), (k + 1, 1), () if k in (-2, 1) else None) for k in range(-3000, 3000)]))
        self.assertIsNone(boxing_fault((TWO,), long_one))
        deep = nested((), 36, lambda part: (2, ((( -2, 1), (2, 1), part),)))
        self.assertEqual(boxing_fault((X,), deep), (0, "pieces"))


if __name__ == "__main__":
    unittest.main()
