"""6.1, 6.2 and 6.3: counts over boxes, signs, bounds of roots, and widths."""

import unittest
from fractions import Fraction
from itertools import product
from math import comb

from boxedroots.bernstein import counts_over, holds_in, sign_over, width_told
from boxedroots.errors import Double, NoBox, NoInteger, NoUnknown, RootError
from boxedroots.polys import Poly, minus, number_poly, plus, power, slope, times
from boxedroots.systems import System
from boxjudge import own_counts, own_holds, own_sign
from helping import NOUGHT, ONE, W, X, Y, Z, Dice, linear, nested, odd_things, pair, total

UNIT = ((0, 1), (1, 1))
CIRCLE = minus(plus(times(X, X), times(Y, Y)), number_poly(5))


def stretch(dice):
    low, high = Fraction(0), Fraction(0)
    while low >= high:
        low, high = Fraction(*dice.fraction()), Fraction(*dice.fraction())
    return (pair(low), pair(high))


def at_values(poly, values):
    found = Fraction(0)
    for powers, count in poly.terms:
        part = Fraction(count)
        for value, high in zip(values, powers):
            part *= value ** high
        found += part
    return found


def added_up(counts, degrees, places):
    """The sum of counts times products of binomial(D, i) s ** i (1 - s) ** (D - i)."""
    found = Fraction(0)
    for place, (over, under) in counts.items():
        part = Fraction(over, under)
        for at, last, s in zip(place, degrees, places):
            part *= comb(last, at) * s ** at * (1 - s) ** (last - at)
        found += part
    return found


def refused(test, error, function, *arguments):
    with test.assertRaises(RootError) as caught:
        function(*arguments)
    test.assertIs(type(caught.exception), error)
    test.assertEqual(vars(caught.exception), {})


NO_BOXES = (
    None, [], [UNIT], (UNIT[0],), ((0, 1), (1, 1)), (((1, 1), (0, 1)),), (((1, 1), (1, 1)),), (((0, 2), (1, 1)),),
    (((0, 1), (2, 4)),), (((0, 1), (1, 0)),), (((0, 1), (1, -1)),), (((False, 1), (1, 1)),), (((0, 1), (1, True)),),
    ([(0, 1), (1, 1)],), ((UNIT[0], UNIT[1], UNIT[1]),), (UNIT, None), (UNIT,) * 4, "", b"", {}, 0, (0,), ((),),
    (((0, 1), 1),), ((0, 1), (1, 2)), (((-1, 2), (-1, 2)),), (((1, 2), (1, 3)),), (UNIT, ((0, 1), [1, 1])),
)


class CountsTest(unittest.TestCase):
    def test_known_counts(self):
        self.assertEqual(counts_over(linear(0, 1), (UNIT,)), {(0,): (0, 1), (1,): (1, 1)})
        self.assertEqual(counts_over(linear(0, 0, 1), (((-1, 1), (1, 1)),)), {(0,): (1, 1), (1,): (-1, 1), (2,): (1, 1)})
        self.assertEqual(counts_over(linear(1, 0, 0, 2), (((1, 2), (2, 1)),)), {
            (0,): (5, 4), (1,): (2, 1), (2,): (5, 1), (3,): (17, 1),
        })
        self.assertEqual(counts_over(times(X, Y), (UNIT, ((1, 1), (3, 1)))), {
            (0, 0): (0, 1), (0, 1): (0, 1), (1, 0): (1, 1), (1, 1): (3, 1),
        })

    def test_edges(self):
        self.assertEqual(counts_over(number_poly(-7), ()), {(): (-7, 1)})
        self.assertEqual(counts_over(NOUGHT, ()), {(): (0, 1)})
        self.assertEqual(counts_over(NOUGHT, (UNIT, UNIT)), {(0, 0): (0, 1)})
        self.assertEqual(counts_over(ONE, (UNIT,) * 3), {(0, 0, 0): (1, 1)})
        self.assertEqual(counts_over(Y, (UNIT, UNIT)), {(0, 0): (0, 1), (0, 1): (1, 1)})
        self.assertEqual(counts_over(X, (UNIT, UNIT)), {(0, 0): (0, 1), (1, 0): (1, 1)})

    def test_counts_come_to_the_poly(self):
        dice = Dice(21)
        for round_ in range(60):
            many = round_ % 4
            poly = dice.poly(tuple(range(many)), 3, 5, 9)
            box = tuple([stretch(dice) for _ in range(many)])
            counts = counts_over(poly, box)
            self.assertIs(type(counts), dict)
            degrees = [max([p[k] for p, _ in poly.terms], default=0) for k in range(many)]
            self.assertEqual(set(counts), set(product(*[range(last + 1) for last in degrees])))
            for over, under in counts.values():
                self.assertEqual((type(over), type(under)), (int, int))
                self.assertEqual(pair(Fraction(over, under)), (over, under))
            for _ in range(3):
                places = [Fraction(dice.throw(0, 4), 4) for _ in range(many)]
                values = [Fraction(*low) + s * (Fraction(*high) - Fraction(*low)) for s, (low, high) in zip(places, box)]
                self.assertEqual(added_up(counts, degrees, places), at_values(poly, values))

    def test_against_the_judge(self):
        dice = Dice(22)
        for round_ in range(60):
            many = round_ % 4
            poly = dice.poly(tuple(range(many)), 4, 6, 20)
            box = tuple([stretch(dice) for _ in range(many)])
            wanted = own_counts(dict(poly.terms), box)
            self.assertEqual(counts_over(poly, box), {place: pair(count) for place, count in wanted.items()})
            self.assertEqual(sign_over(poly, box), own_sign(dict(poly.terms), box))

    def test_great_ones(self):
        great = 10 ** 30 - 1
        box = (((-great, great - 1), (great, 17)),)
        poly = minus(power(X, 60), number_poly(great))
        wanted = own_counts(dict(poly.terms), box)
        self.assertEqual(counts_over(poly, box), {place: pair(count) for place, count in wanted.items()})
        higher = power(power(plus(X, ONE), 30), 3)
        wanted = own_counts(dict(higher.terms), (UNIT,))
        self.assertEqual(counts_over(higher, (UNIT,)), {place: pair(count) for place, count in wanted.items()})

    def test_no_box(self):
        for thing in NO_BOXES:
            refused(self, NoBox, counts_over, ONE, thing)
            refused(self, NoBox, sign_over, ONE, thing)
        for thing in odd_things() + [System(1, (), ()), nested(UNIT, 38, lambda part: (part,))]:
            refused(self, NoBox, counts_over, ONE, thing)
            refused(self, NoBox, sign_over, ONE, thing)
            refused(self, NoBox, sign_over, ONE, (UNIT, thing))
            if thing != (0, 1):
                refused(self, NoBox, sign_over, ONE, ((thing, (1, 1)),))

    def test_an_unknown_that_lacks(self):
        for poly, box in ((X, ()), (Y, (UNIT,)), (Z, (UNIT, UNIT)), (W, (UNIT,) * 3), (plus(X, Z), (UNIT, UNIT))):
            refused(self, NoBox, counts_over, poly, box)
            refused(self, NoBox, sign_over, poly, box)

    def test_answers_are_new_and_alike(self):
        box = (UNIT, ((1, 1), (2, 1)))
        first, second = counts_over(CIRCLE, box), counts_over(Poly(CIRCLE.terms), (UNIT, ((1, 1), (2, 1))))
        self.assertEqual(first, second)
        self.assertIsNot(first, second)
        first.clear()
        self.assertEqual(counts_over(CIRCLE, box), second)
        self.assertEqual(CIRCLE.terms, (((0, 0, 0, 0), -5), ((0, 2, 0, 0), 1), ((2, 0, 0, 0), 1)))


class SignTest(unittest.TestCase):
    def test_e03(self):
        self.assertEqual(sign_over(CIRCLE, (UNIT, UNIT)), -1)

    def test_known_signs(self):
        for sign, poly, box in (
            (1, ONE, ()), (-1, number_poly(-1), ()), (0, NOUGHT, ()), (0, NOUGHT, (UNIT,)), (0, X, (UNIT,)),
            (1, X, (((1, 9), (1, 8)),)), (-1, X, (((-2, 1), (-1, 9)),)), (0, linear(1, -1, 1), (((-9, 1), (9, 1)),)),
            (1, linear(1, -1, 1), (UNIT,)), (0, linear(1, 0, 1), (((-1, 1), (1, 1)),)), (1, ONE, (UNIT,) * 3),
            (-1, minus(Z, number_poly(2)), (UNIT,) * 3), (0, minus(Z, X), (UNIT,) * 3),
        ):
            found = sign_over(poly, box)
            self.assertEqual(found, sign)
            self.assertIs(type(found), int)

    def test_the_sign_that_is_told_is_there(self):
        dice = Dice(23)
        for _ in range(40):
            poly = dice.poly((0, 1), 3, 5, 9)
            box = (stretch(dice), stretch(dice))
            sign = sign_over(poly, box)
            for s, t in product([Fraction(n, 5) for n in range(6)], repeat=2):
                x, y = [Fraction(*low) + s_ * (Fraction(*high) - Fraction(*low)) for s_, (low, high) in zip((s, t), box)]
                found = at_values(poly, (x, y))
                self.assertTrue(sign == 0 or found * sign > 0)

    def test_small_boxes_tell_it(self):
        dice = Dice(24)
        for _ in range(12):
            poly = dice.poly((0, 1, 2), 2, 5, 9)
            point = [Fraction(*dice.fraction()) for _ in range(3)]
            wanted = at_values(poly, point)
            if wanted == 0:
                continue
            width, found = Fraction(1), 0
            for _ in range(60):
                box = tuple([(pair(place - width), pair(place + width / 3)) for place in point])
                found = sign_over(poly, box)
                if found != 0:
                    break
                width /= 2
            self.assertEqual(found, 1 if wanted > 0 else -1)
            self.assertEqual(sign_over(poly, tuple([(pair(p - width / 9), pair(p + width / 9)) for p in point])), found)


class HoldsTest(unittest.TestCase):
    def test_known_bounds(self):
        for wanted, poly, bound in (
            (True, linear(-2, 0, 1), 2), (False, linear(-2, 0, 1), 1), (True, X, 1), (False, linear(-1, 1), 1),
            (True, linear(-1, 1), 2), (False, linear(5, 1), 5), (True, linear(5, 1), 6), (True, linear(0, -3), 1),
            (True, linear(-1, 3), 1), (False, linear(-10 ** 29, 1), 10 ** 29), (True, linear(-10 ** 29, 1), 10 ** 29 + 1),
        ):
            self.assertIs(holds_in(poly, 0, (), bound), wanted)
        # Roots that are not real are in the way, too, if they are far to one side.
        self.assertIs(holds_in(linear(101, -20, 1), 0, (), 1), False)
        self.assertIs(holds_in(linear(101, -20, 1), 0, (), 11), True)

    def test_over_boxes(self):
        line = minus(times(number_poly(2), Y), X)
        self.assertIs(holds_in(line, 1, (UNIT,), 1), True)
        self.assertIs(holds_in(line, 1, (((1, 1), (2, 1)),), 1), False)
        self.assertIs(holds_in(line, 1, (((1, 1), (2, 1)),), 2), True)
        self.assertIs(holds_in(minus(times(X, Y), ONE), 1, (((1, 2), (1, 1)),), 3), True)
        self.assertIs(holds_in(minus(times(X, Y), ONE), 1, (((1, 2), (1, 1)),), 2), False)
        for bound in (1, 10, 10 ** 9):
            self.assertIs(holds_in(minus(times(X, Y), ONE), 1, (((-1, 1), (1, 1)),), bound), False)
        self.assertIs(holds_in(total([times(Z, Z), X, Y]), 2, (UNIT, UNIT), 2), True)
        self.assertIs(holds_in(total([times(Z, Z), X, Y]), 2, (UNIT, UNIT), 1), True)
        self.assertIs(holds_in(minus(W, total([X, Y, Z])), 3, (UNIT,) * 3, 4), True)
        self.assertIs(holds_in(minus(W, total([X, Y, Z])), 3, (UNIT,) * 3, 3), False)

    def test_against_the_judge(self):
        dice = Dice(25)
        told = []
        for round_ in range(150):
            k = round_ % 3
            poly = plus(times((X, Y, Z)[k], dice.poly(tuple(range(k + 1)), 2, 3, 5)), dice.poly(tuple(range(k)), 2, 3, 5))
            if max([powers[k] for powers, _ in poly.terms], default=0) == 0:
                continue
            box = tuple([stretch(dice) for _ in range(k)])
            bound = dice.throw(1, 12)
            found = holds_in(poly, k, box, bound)
            told.append(found)
            self.assertIs(found, own_holds(dict(poly.terms), k, box, bound))
        self.assertGreater(told.count(True), 10)
        self.assertGreater(told.count(False), 10)

    def test_each_great_enough_bound_holds(self):
        dice = Dice(26)
        for _ in range(20):
            poly = plus(times(power(Y, 2), plus(times(X, X), ONE)), times(Y, dice.poly((0,), 3, 3, 9)))
            poly = plus(poly, dice.poly((0,), 3, 3, 9))
            box = (((1, 3), (1, 2)),)
            for bound in (10 ** 4, 10 ** 4 + 1, 10 ** 30 - 1):
                self.assertIs(holds_in(poly, 1, box, bound), True)

    def test_wrong_ones(self):
        for k in (4, -1, True, False, None, "0", (0,), 10 ** 29):
            refused(self, NoUnknown, holds_in, X, k, (), 1)
        for thing in odd_things():
            refused(self, NoUnknown, holds_in, X, thing, None, None)
            refused(self, NoBox, holds_in, Y, 1, thing, None)
            refused(self, NoInteger, holds_in, X, 0, (), thing if type(thing) is not int or thing < 1 else None)
        for box in ((), (UNIT, UNIT), [UNIT], (((1, 1), (0, 1)),), (((0, 1), (0, 1)),), (((0, 1), (2, 2)),), UNIT):
            refused(self, NoBox, holds_in, Y, 1, box, 0)
        refused(self, NoBox, holds_in, X, 0, (UNIT,), 1)
        refused(self, NoBox, holds_in, W, 3, (UNIT,) * 4, 1)
        for bound in (0, -1, True, None, "1", (1, 1), [1], -10 ** 29):
            refused(self, NoInteger, holds_in, X, 0, (), bound)

    def test_order_of_errors(self):
        refused(self, NoUnknown, holds_in, Y, 7, (), 0)
        refused(self, NoBox, holds_in, Y, 1, (), 0)


class WidthTest(unittest.TestCase):
    def held(self, poly, bound):
        """The width is a fraction above 0, and both roots and those of the slope are further apart."""
        width = width_told(poly, bound)
        self.assertIs(type(width), tuple)
        self.assertEqual(pair(Fraction(*width)), width)
        self.assertGreater(Fraction(*width), 0)
        self.assertEqual(width_told(Poly(poly.terms), bound), width)
        return Fraction(*width)

    def test_roots_that_are_known(self):
        # (the polynomial, its roots, the roots of its slope)
        for poly, ones, others in (
            (linear(0, -1, 0, 1), (-1, 0, 1), (Fraction(-5773, 10000), Fraction(5774, 10000))),
            (linear(-1, 0, 1), (-1, 1), (0,)), (linear(-1, 0, 10000), (Fraction(-1, 100), Fraction(1, 100)), (0,)),
            (times(linear(-1, 1), linear(-1001, 1000)), (1, Fraction(1001, 1000)), (Fraction(2001, 2000),)),
        ):
            for bound in (1, 2, 100):
                width = self.held(poly, bound)
                for one, other in product(ones, others):
                    if abs(one) <= bound and abs(other) <= bound:
                        self.assertGreater(abs(one - other), width)

    def test_in_no_stretch_so_long_are_both_nought(self):
        dice = Dice(27)
        for _ in range(40):
            poly = dice.poly((0,), 5, 4, 9)
            if max([p[0] for p, _ in poly.terms], default=0) == 0:
                continue
            try:
                width = width_told(poly, 3)
            except Double:
                continue
            width = self.held(poly, 3)
            below = slope(poly, 0)
            low = Fraction(-3)
            for _ in range(60):
                # Where neither keeps its sign there might be roots of both: signs are held at small steps.
                low = Fraction(dice.throw(-3000, 2999), 1000)
                high = min(low + width, Fraction(3))
                changes = [at_values(part, (low,)) * at_values(part, (high,)) <= 0 for part in (poly, below)]
                self.assertNotEqual(changes, [True, True])

    def test_edges(self):
        for bound in (1, 2, 10 ** 29, 10 ** 30 - 1):
            self.held(linear(-2, 0, 1), bound)
            self.held(linear(3, -7), bound)
            self.held(X, bound)
            self.held(minus(power(X, 12), number_poly(10 ** 29)), bound)

    def test_wrong_ones(self):
        for poly in (Y, plus(X, Z), W, times(X, Y)):
            refused(self, NoUnknown, width_told, poly, 1)
        for poly in (
            NOUGHT, ONE, number_poly(-3), times(X, X), power(linear(1, 2), 3), times(linear(1, 1), linear(1, 2, 1)),
            power(linear(1, 0, 1), 2), times(power(linear(-2, 0, 1), 2), X),
        ):
            refused(self, Double, width_told, poly, 1)
        for thing in odd_things():
            if type(thing) is not int or thing < 1:
                refused(self, NoInteger, width_told, X, thing)
        for thing in (True, False, None, "1", (1, 1)):
            refused(self, NoInteger, width_told, linear(-2, 0, 1), thing)

    def test_bounds_below_one(self):
        for bound in (0, -1, -2, -10 ** 29, 1 - 10 ** 30):
            for poly in (X, linear(0, -2), linear(-2, 0, 1), linear(0, -1, 0, 1), minus(power(X, 12), number_poly(10 ** 29))):
                refused(self, NoInteger, width_told, poly, bound)
                refused(self, NoInteger, holds_in, poly, 0, (), bound)
                self.held(poly, 1)

    def test_order_of_errors(self):
        for bound in (None, 0, -1, -10 ** 29, True, "1"):
            refused(self, NoUnknown, width_told, Y, bound)
            refused(self, NoUnknown, width_told, times(X, Y), bound)
            refused(self, Double, width_told, ONE, bound)
            refused(self, Double, width_told, NOUGHT, bound)
            refused(self, Double, width_told, power(linear(1, 2), 2), bound)


if __name__ == "__main__":
    unittest.main()
