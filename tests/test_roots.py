"""9.1 and 9.2: real roots, each in a box of its own, their values and signs, and which are kept, least, nearest."""

import unittest
from fractions import Fraction
from itertools import product

from boxedroots.errors import Endless, NoPoint, NoPolynomial, NoUnknown, NoWidth, NoWish, RootError
from boxedroots.numbers import (
    Number, as_fraction, compared, difference_of, floor_of, number_of, product_of, root_of, sum_of,
)
from boxedroots.polys import Poly, minus, plus, power, times
from boxedroots.roots import Root, greatest_at, kept, least_at, many_real, nearest, roots
from boxedroots.systems import System
from boxedroots.telling import many_roots
from helping import NOUGHT, ONE, W, X, Y, Z, Dice, linear, nested, odd_things, pair, total
from test_making import KNOWN, OVER, XX, XY, YY, ZZ, dense, from_roots, in_y, number

CIRCLE = minus(plus(XX, YY), number(5))
LINE = minus(X, times(number(2), Y))
S = System(2, (CIRCLE, LINE), ())
GRID = System(2, (from_roots((-1, 0, 2)), in_y(from_roots((-3, 1)))), ())
ENDLESS = [System(1, (), ()), System(2, (LINE,), ()), System(3, (X, Y), (Z,)), System(2, (XY,), ())]
NONE = [System(1, (ONE,), ()), System(1, (X,), (X,)), System(2, (plus(XX, ONE), Y), ()), System(3, (X, Y, plus(ZZ, ONE)), ())]


def refused(test, error, function, *arguments, fields=None):
    with test.assertRaises(RootError) as caught:
        function(*arguments)
    test.assertIs(type(caught.exception), error)
    test.assertEqual(vars(caught.exception), fields or {})


def in_z(poly):
    return Poly(tuple([((0, 0, powers[0], 0), count) for powers, count in poly.terms]))


def frac(over, under=1):
    return number_of(pair(Fraction(over, under)))


def points_of(found, many):
    """The roots, which are whole, as tuples of integers."""
    rows = []
    for root in found:
        places = [as_fraction(root.value(k)) for k in range(many)]
        rows.append(tuple([over if under == 1 else Fraction(over, under) for over, under in places]))
    return rows


def worth_at(poly, point):
    found = Fraction(0)
    for powers, count in poly.terms:
        part = Fraction(count)
        for value, high in zip(point, powers):
            part *= Fraction(value) ** high
        found += part
    return found


def systems_with_points(dice):
    """Systems made of products of lines, with their real roots, which are whole or broken."""
    for many in (1, 2, 3):
        for _ in range(8):
            rows = [sorted({Fraction(dice.throw(-6, 6), dice.throw(1, 2)) for _ in range(dice.throw(1, 3))}) for _ in range(many)]
            fronts = [dice.throw(-2, 2) for _ in range(many)]
            equations, points = [], [()]
            for k, row in enumerate(rows):
                unknown = (X, Y, Z)[k]
                shift = times(number(fronts[k]), (X, Y, Z)[k - 1]) if k > 0 else NOUGHT
                poly = ONE
                for place in row:
                    line = minus(times(number(place.denominator), minus(unknown, shift)), number(place.numerator))
                    poly = times(poly, power(line, dice.throw(1, 2)))
                equations.append(poly)
                points = [p + (place + (fronts[k] * p[k - 1] if k > 0 else 0),) for p in points for place in row]
            bar = dice.poly(tuple(range(many)), 1, 2, 3)
            barred = (bar,) if dice.throw(0, 1) else ()
            points = sorted([p for p in points if not barred or worth_at(bar, p) != 0])
            if many == 2:
                equations[1] = plus(equations[1], times(equations[0], Y))
            yield many, System(many, tuple(equations), barred), points


class RootsTest(unittest.TestCase):
    def test_e05(self):
        found = [(root.value(0) == number_of((2, 1)), root.value(1) == number_of((-1, 1))) for root in roots(S)]
        self.assertEqual(found, [(False, True), (True, False)])

    def test_known_points_in_order(self):
        self.assertEqual(points_of(roots(GRID), 2), [(-1, -3), (-1, 1), (0, -3), (0, 1), (2, -3), (2, 1)])
        for many, system, points in systems_with_points(Dice(61)):
            found = roots(system)
            self.assertIs(type(found), list)
            self.assertEqual(points_of(found, many), points)
            self.assertEqual(many_real(system), len(points))
            self.assertTrue(all(type(root) is Root for root in found))

    def test_known_systems(self):
        for many, system in KNOWN + OVER:
            if many is None:
                refused(self, Endless, roots, system)
                refused(self, Endless, many_real, system)
                continue
            found = roots(system)
            self.assertEqual(len(found), many_real(system))
            self.assertLessEqual(len(found), many)
            self.assertEqual((many - len(found)) % 2, 0)
            for root in found:
                self.assertEqual([root.sign_at(poly) for poly in system.equations], [0] * len(system.equations))
                self.assertNotIn(0, [root.sign_at(poly) for poly in system.barred])
            self.in_order(found, system.many)

    def in_order(self, found, many):
        rows = [[root.value(k) for k in range(many)] for root in found]
        for one, other in zip(rows, rows[1:]):
            signs = [compared(a, b) for a, b in zip(one, other)]
            self.assertEqual([sign for sign in signs if sign != 0][:1], [-1])

    def test_orders_over_several_leaves(self):
        # Both parts, of unlike heights, have roots with the same x, and with the same x and y.
        parts = [
            (minus(XX, number(2)), minus(YY, X), minus(Z, Y)), (minus(XX, number(2)), plus(Y, X), minus(ZZ, ONE)),
            (minus(times(XX, X), times(number(2), X)), Y, minus(ZZ, number(4))),
        ]
        for one, other in product(parts, repeat=2):
            whole = tuple([times(a, b) for a, b in zip(one, other)])
            system = System(3, whole, ())
            found = roots(system)
            self.in_order(found, 3)
            self.assertEqual(len(found), many_real(system))
        self.in_order(roots(System(2, (times(minus(XX, number(2)), linear(-1, 1)), times(minus(YY, X), minus(Y, X))), ())), 2)

    def test_none_and_endless(self):
        for system in NONE:
            self.assertEqual(roots(system), [])
            self.assertEqual(many_real(system), 0)
            self.assertEqual(kept(system, ()), [])
            self.assertEqual(least_at(system, X), [])
            self.assertEqual(greatest_at(system, X), [])
            self.assertEqual(nearest(system, ((0, 1),) * system.many), [])
        for system in ENDLESS:
            refused(self, Endless, roots, system)
            refused(self, Endless, many_real, system)
        # There is no end of the roots though only one of them is real.
        refused(self, Endless, roots, System(2, (plus(XX, YY),), ()))

    def test_double_ones_and_square_roots(self):
        system = System(2, (power(minus(XX, number(2)), 2), power(minus(Y, X), 3)), ())
        found = roots(system)
        self.assertEqual([floor_of(root.value(1), 5) for root in found], [-141422, 141421])
        self.assertEqual(found[1].value(0), root_of(frac(2), 2))
        self.assertEqual(many_real(System(3, (plus(XX, plus(YY, ZZ)), minus(X, Y), times(X, Y)), ())), 1)
        meeting = System(2, (minus(plus(XX, YY), number(2)), power(minus(plus(X, Y), number(2)), 2)), ())
        self.assertEqual(points_of(roots(meeting), 2), [(1, 1)])

    def test_near_roots(self):
        great = 10 ** 15
        system = System(2, (times(linear(-1, 1), linear(-great - 1, great)), minus(Y, times(number(great), X))), ())
        self.assertEqual(points_of(roots(system), 2), [(1, great), (Fraction(great + 1, great), great + 1)])

    def test_dense_systems(self):
        dice = Dice(62)
        for many, highs in ((1, (9,)), (2, (3, 3)), (2, (4, 3)), (3, (2, 2, 2))):
            for _ in range(2):
                system = System(many, tuple([dense(dice, high, range(many)) for high in highs]), ())
                found = roots(system)
                self.in_order(found, many)
                self.assertEqual((many_roots(system) - len(found)) % 2, 0)
                for root in found:
                    self.assertEqual([root.sign_at(poly) for poly in system.equations], [0] * many)

    def test_equations_turned_about(self):
        for system in (S, GRID, System(3, (minus(XX, number(2)), minus(YY, X), minus(ZZ, total([X, Y, number(3)]))), ())):
            turned = tuple(reversed([times(number(-2), poly) for poly in system.equations]))
            mixed = (plus(turned[0], times(turned[1], X)),) + turned[1:]
            for equations in (turned, mixed):
                self.assertTrue(roots(System(system.many, equations, ())) == roots(system))

    def test_equal_calls_and_new_lists(self):
        first, second = roots(S), roots(System(2, (CIRCLE, LINE), ()))
        self.assertEqual(first, second)
        self.assertIsNot(first, second)
        first.clear()
        self.assertEqual(len(roots(S)), 2)
        self.assertEqual(kept(S, ((X, (1,)),)), kept(S, ((X, (1,)),)))


class RootTest(unittest.TestCase):
    def test_boxes(self):
        for system in (S, GRID, System(2, (times(linear(-1, 1), linear(-10 ** 9 - 1, 10 ** 9)), minus(YY, X)), ())):
            found = roots(system)
            values = [[root.value(k) for k in range(system.many)] for root in found]
            for at, root in enumerate(found):
                for width in ((1, 1), (10 ** 29, 1), (3, 7), (1, 10 ** 12)):
                    box = root.box(width)
                    self.assertIs(type(box), tuple)
                    self.assertEqual(len(box), system.many)
                    for low, high in box:
                        self.assertEqual((pair(Fraction(*low)), pair(Fraction(*high))), (low, high))
                        self.assertTrue(0 < Fraction(*high) - Fraction(*low) <= Fraction(*width))
                    inside = [
                        all(compared(number_of(low), v) <= 0 <= compared(number_of(high), v) for v, (low, high) in zip(row, box))
                        for row in values
                    ]
                    self.assertEqual(inside, [place == at for place in range(len(found))])
                    self.assertEqual(root.box(width), box)

    def test_boxes_over_several_leaves(self):
        whole = (times(minus(XX, number(2)), linear(-1, 1)), times(minus(YY, X), minus(Y, X)))
        system = System(2, whole + (times(minus(XX, number(2)), minus(Y, X)),), ())
        found = roots(system)
        values = [[root.value(k) for k in range(2)] for root in found]
        self.assertGreater(len(found), 2)
        for at, root in enumerate(found):
            box = root.box((10 ** 29, 1))
            inside = [
                all(compared(number_of(low), v) <= 0 <= compared(number_of(high), v) for v, (low, high) in zip(row, box))
                for row in values
            ]
            self.assertEqual(inside, [place == at for place in range(len(found))])

    def test_no_width(self):
        root = roots(S)[0]
        for thing in ((0, 1), (-1, 2), (2, 4), (1, 0), 1, None, "1", [1, 2], (1,), (True, 2), frac(1), root):
            refused(self, NoWidth, root.box, thing)
        for thing in odd_things():
            refused(self, NoWidth, root.box, thing)

    def test_values(self):
        for system in (System(1, (linear(-3, 2),), ()), S, System(3, (linear(-2, 0, 1), minus(Y, X), plus(Z, XY)), ())):
            for root in roots(system):
                for k in range(system.many):
                    self.assertIs(type(root.value(k)), Number)
                for k in (system.many, 3, 4, -1, True, None, "0", (0,), 10 ** 29):
                    refused(self, NoUnknown, root.value, k)
        for thing in odd_things():
            refused(self, NoUnknown, roots(S)[0].value, thing)
        found = roots(System(2, (plus(XX, minus(YY, number(5))), minus(XY, number(2))), ()))
        self.assertEqual(points_of(found, 2), [(-2, -1), (-1, -2), (1, 2), (2, 1)])

    def test_signs(self):
        dice = Dice(63)
        for many, system, points in systems_with_points(Dice(64)):
            for root, point in zip(roots(system), points):
                for _ in range(3):
                    poly = dice.poly(tuple(range(many)), 3, 4, 9)
                    wanted = worth_at(poly, point)
                    self.assertEqual(root.sign_at(poly), (wanted > 0) - (wanted < 0))
                    self.assertEqual(as_fraction(root.value_of(poly)), pair(wanted))
                    # And where it is 0 there.
                    moved = minus(times(number(wanted.denominator), poly), number(wanted.numerator))
                    self.assertEqual(root.sign_at(moved), 0)

    def test_signs_where_it_is_nought_or_near_it(self):
        found = roots(System(3, (minus(XX, number(2)), minus(YY, X), minus(ZZ, plus(X, number(3)))), ()))
        self.assertEqual(len(found), 4)
        root = found[-1]
        for sign, poly in (
            (0, minus(XX, number(2))), (0, minus(power(Y, 4), number(2))), (0, minus(power(Z, 4), plus(times(number(6), X), number(11)))),
            (0, NOUGHT), (1, ONE), (1, Z), (-1, number(-1)), (0, minus(times(ZZ, Y), times(Y, plus(X, number(3))))),
            (-1, minus(times(number(10 ** 20), X), number(141421356237309504881))), (1, minus(times(number(10 ** 20), X), number(141421356237309504880))),
            (0, times(minus(Y, X), minus(XX, number(2)))), (-1, minus(Y, X)), (1, minus(Z, Y)), (0, minus(times(YY, YY), XX)),
        ):
            self.assertEqual(root.sign_at(poly), sign)
        self.assertEqual([r.sign_at(Z) for r in found], [-1, 1, -1, 1])
        self.assertEqual([r.sign_at(plus(times(number(-1), YY), X)) for r in found], [0] * 4)
        # Here the polynomial is 0 at one of two roots with the same x.
        pair_ = roots(System(2, (minus(XX, number(2)), times(minus(Y, X), minus(plus(Y, X), ONE))), ()))
        self.assertEqual([r.sign_at(minus(Y, X)) for r in pair_], [0, 1, -1, 0])
        self.assertEqual([r.sign_at(minus(times(X, Y), number(2))) for r in pair_], [0, -1, -1, 0])

    def test_values_of_polys(self):
        found = roots(System(2, (minus(XX, number(2)), minus(YY, number(3))), ()))
        a, b = root_of(frac(2), 2), root_of(frac(3), 2)
        self.assertEqual(found[-1].value_of(plus(X, Y)), sum_of(a, b))
        self.assertEqual(found[-1].value_of(XY), product_of(a, b))
        self.assertEqual(found[0].value_of(XY), product_of(a, b))
        self.assertEqual(found[1].value_of(minus(Y, X)), sum_of(a, b))
        self.assertEqual(found[2].value_of(plus(X, Y)), difference_of(a, b))
        for root in found:
            self.assertEqual(root.value_of(number(7)), frac(7))
            self.assertEqual(root.value_of(NOUGHT), frac(0))
            self.assertEqual(root.value_of(XX), frac(2))
            self.assertEqual(root.value_of(X), root.value(0))
            self.assertEqual(root.value_of(Y), root.value(1))
            self.assertIs(type(root.value_of(Y)), Number)

    def test_no_polynomial(self):
        for system in (System(1, (X,), ()), S):
            root = roots(system)[0]
            wrong = [Z, W, plus(X, Z)] + ([Y, XY] if system.many == 1 else [])
            for poly in wrong + [None, 1, "x", [X], (X,), frac(1), root, system, nested(root, 40, lambda part: (part,))]:
                refused(self, NoPolynomial, root.sign_at, poly)
                refused(self, NoPolynomial, root.value_of, poly)
            for thing in odd_things():
                if not isinstance(thing, Poly):
                    refused(self, NoPolynomial, root.sign_at, thing)
                    refused(self, NoPolynomial, root.value_of, thing)

    def test_equal(self):
        one, other = roots(S)
        self.assertTrue(one == roots(S)[0])
        self.assertFalse(one == other)
        same = roots(System(2, (minus(YY, ONE), power(LINE, 2), plus(X, minus(Y, number(-3)))), ()))
        self.assertEqual(len(same), 1)
        self.assertTrue(same[0] == one)
        self.assertFalse(same[0] != one)
        self.assertFalse(same[0] == other)
        for system in (System(1, (plus(X, number(2)),), ()), System(3, (plus(X, number(2)), plus(Y, ONE), Z), ())):
            self.assertFalse(roots(system)[0] == one)
            self.assertFalse(one == roots(system)[0])
        for thing in odd_things() + [(-2, -1), ((-2, 1), (-1, 1)), frac(-2), S, one.box((1, 1))]:
            self.assertFalse(one == thing)
            self.assertFalse(thing == one)
        x_square = roots(System(2, (times(minus(XX, number(2)), linear(-5, 1)), minus(Y, X)), ()))
        self.assertTrue(x_square[0] == roots(System(2, (minus(YY, number(2)), minus(X, Y)), ()))[0])

    def test_equal_beside_near_ones(self):
        near = 10 ** 20
        two = minus(times(number(near), XX), number(2 * near))
        beside = minus(two, ONE)
        pairs = roots(System(2, (times(two, beside), minus(YY, X)), ()))
        self.assertEqual(len(pairs), 4)
        for at, one in enumerate(pairs):
            self.assertEqual([one == other for other in pairs], [at == place for place in range(4)])
        for poly, places in ((two, (0, 1)), (beside, (2, 3))):
            alone = roots(System(2, (poly, minus(power(Y, 4), XX)), (plus(YY, X),)))
            self.assertEqual(len(alone), 2)
            found = [[one == other for other in pairs] for one in alone]
            self.assertEqual(found, [[at == place for at in range(4)] for place in places])

    def test_nothing_changes(self):
        root = roots(S)[0]
        before = dict(vars(root))
        root.box((1, 10 ** 20)), root.value(1), root.sign_at(CIRCLE), root.value_of(XY), root == roots(S)[1]
        self.assertEqual(vars(root), before)


class KeptTest(unittest.TestCase):
    def test_wishes(self):
        for points, wishes in (
            ([(-1, -3), (-1, 1), (0, -3), (0, 1), (2, -3), (2, 1)], ()), ([(2, -3), (2, 1)], ((X, (1,)),)), ([(0, -3), (0, 1)], ((X, (0,)),)),
            ([(-1, -3), (-1, 1), (0, -3), (0, 1)], ((X, (0, -1)),)), ([], ((X, ()),)), ([(2, 1)], ((X, (1,)), (Y, (1,)))),
            ([(-1, -3), (-1, 1), (0, -3), (0, 1), (2, -3), (2, 1)], ((X, (-1, 0, 1)),) * 6), ([], ((X, (1,)), (X, (-1,)))),
            ([(-1, -3), (2, 1)], ((times(X, Y), (1, 1, 1)),)), ([(-1, 1)], ((plus(X, Y), (0,)),)), ([], ((ONE, (0, -1)),)), ([], ((NOUGHT, (1,)),)),
        ):
            found = kept(GRID, wishes)
            self.assertIs(type(found), list)
            self.assertEqual(points_of(found, 2), points)
        six = ((X, (0, 1)), (Y, (1,)), (ONE, (1,)), (NOUGHT, (0,)), (plus(X, Y), (1,)), (linear(-2, 1), (-1, 1)))
        self.assertEqual(points_of(kept(GRID, six), 2), [(0, 1)])

    def test_no_wish(self):
        good = (X, (1,))
        for index, wishes in (
            (-1, None), (-1, [good]), (-1, (good,) * 7), (-1, (None,) * 7), (0, (None,)), (1, (good, [X, (1,)])), (5, (good,) * 5 + ((X,),)),
            (0, (good + (1,),)), (0, (X, (1,))), (0, ((X, [1]),)), (0, ((X, 1),)), (1, (good, (X, (2,)))), (1, (good, (X, (True,)), None)),
            (0, ((X, (1, -2)),)), (0, ((X, (None,)),)), (0, ((Z, (1,)),)), (2, (good, good, (W, ()))), (0, ((None, (1,)),)), (0, (("x", ()),)),
            (0, ((X, ((1,),)),)), (0, ((X, "1"),)), (0, ((X, (False,)),)),
        ):
            refused(self, NoWish, kept, GRID, wishes, fields={"index": index})
        for thing in odd_things() + [roots(S)[0], frac(1), S]:
            refused(self, NoWish, kept, S, (good, thing), fields={"index": 1})
            if type(thing) is not tuple or len(thing) > 6:
                refused(self, NoWish, kept, S, thing, fields={"index": -1})
            if not isinstance(thing, Poly):
                refused(self, NoWish, kept, S, ((thing, (1,)),), fields={"index": 0})
            if thing not in ((), (0,), (1,), (0, 1)):
                refused(self, NoWish, kept, S, ((X, thing),), fields={"index": 0})
            if type(thing) is not int or thing != -1:
                refused(self, NoWish, kept, S, ((X, (1, thing)),), fields={"index": 0})
        self.assertEqual(kept(S, ((X, (-1,)),)), roots(S)[:1])

    def test_order_of_errors(self):
        for system in ENDLESS:
            refused(self, Endless, kept, system, None)
            refused(self, Endless, least_at, system, None)
            refused(self, Endless, greatest_at, system, W)
            refused(self, Endless, nearest, system, None)


class LeastTest(unittest.TestCase):
    def test_least_and_greatest(self):
        for poly, low, high in (
            (X, [(-1, -3), (-1, 1)], [(2, -3), (2, 1)]), (plus(X, Y), [(-1, -3)], [(2, 1)]), (times(X, Y), [(2, -3)], [(-1, -3)]),
            (YY, [(-1, 1), (0, 1), (2, 1)], [(-1, -3), (0, -3), (2, -3)]), (times(linear(0, -1, 1), ONE), [(0, -3), (0, 1)], [(-1, -3), (-1, 1), (2, -3), (2, 1)]),
            (ONE, [(-1, -3), (-1, 1), (0, -3), (0, 1), (2, -3), (2, 1)], [(-1, -3), (-1, 1), (0, -3), (0, 1), (2, -3), (2, 1)]),
        ):
            self.assertEqual(points_of(least_at(GRID, poly), 2), low)
            self.assertEqual(points_of(greatest_at(GRID, poly), 2), high)
            self.assertIs(type(least_at(GRID, poly)), list)

    def test_against_the_points(self):
        dice = Dice(65)
        for many, system, points in systems_with_points(Dice(66)):
            poly = dice.poly(tuple(range(many)), 2, 3, 4)
            worths = [worth_at(poly, point) for point in points]
            for function, choose in ((least_at, min), (greatest_at, max)):
                wanted = [point for point, worth_ in zip(points, worths) if worth_ == choose(worths)]
                self.assertEqual(points_of(function(system, poly), many), wanted)

    def test_square_roots(self):
        system = System(2, (minus(XX, number(2)), minus(YY, number(2))), ())
        self.assertEqual([[floor_of(r.value(k), 0) for k in (0, 1)] for r in least_at(system, XY)], [[-2, 1], [1, -2]])
        self.assertEqual(len(greatest_at(system, XY)), 2)
        self.assertEqual(len(greatest_at(system, times(XX, Y))), 2)
        self.assertEqual(len(least_at(system, plus(X, Y))), 1)
        close = System(1, (times(minus(XX, number(2)), linear(-141421356237309504880168872421, 10 ** 29)),), ())
        self.assertEqual(greatest_at(close, X), roots(close)[2:])

    def test_no_polynomial(self):
        for poly in (Z, W, plus(X, Z), None, 1, "x", [X], roots(S)[0], S):
            refused(self, NoPolynomial, least_at, S, poly)
            refused(self, NoPolynomial, greatest_at, S, poly)
        for thing in odd_things():
            if not isinstance(thing, Poly):
                refused(self, NoPolynomial, least_at, S, thing)
                refused(self, NoPolynomial, greatest_at, NONE[0], thing)

    def test_nearest(self):
        for point, wanted in (
            (((0, 1), (0, 1)), [(0, 1)]), (((1, 1), (1, 1)), [(0, 1), (2, 1)]), (((-1, 2), (-1, 1)), [(-1, -3), (-1, 1), (0, -3), (0, 1)]),
            (((10 ** 29, 1), (0, 1)), [(2, 1)]), (((2, 1), (-3, 1)), [(2, -3)]), (((1, 10 ** 29), (-10 ** 29, 3)), [(0, -3)]),
        ):
            self.assertEqual(points_of(nearest(GRID, point), 2), wanted)
        self.assertEqual(points_of(nearest(S, ((1, 1), (-2, 1))), 2), [(-2, -1), (2, 1)])
        three = System(3, (linear(-1, 0, 1), minus(YY, ONE), in_z(linear(-1, 0, 1))), ())
        self.assertEqual(len(nearest(three, ((0, 1),) * 3)), 8)
        self.assertEqual(len(nearest(three, ((1, 2), (0, 1), (0, 1)))), 4)
        self.assertEqual(points_of(nearest(three, ((1, 2), (-1, 3), (1, 4))), 3), [(1, -1, 1)])

    def test_against_distances(self):
        dice = Dice(67)
        for many, system, points in systems_with_points(Dice(68)):
            point = tuple([dice.fraction() for _ in range(many)])
            worths = [sum((a - Fraction(*b)) ** 2 for a, b in zip(p, point)) for p in points]
            wanted = [p for p, worth_ in zip(points, worths) if worth_ == min(worths)]
            self.assertEqual(points_of(nearest(system, point), many), wanted)

    def test_no_point(self):
        good = (1, 2)
        for point in (
            (good,), (good,) * 3, [good, good], (good, 1), (good, (2, 4)), (good, (1, 0)), (good, (True, 2)), None, (), good, "12", 0,
            (good, [1, 2]), (good, frac(1)),
        ):
            refused(self, NoPoint, nearest, S, point)
        for thing in odd_things() + [roots(S)[0]]:
            refused(self, NoPoint, nearest, S, thing)
            if thing != (0, 1):
                refused(self, NoPoint, nearest, S, (good, thing))
                refused(self, NoPoint, nearest, NONE[2], (thing, good))


class ManyTest(unittest.TestCase):
    def test_the_fact_of_roots(self):
        for system, real, many in (
            (S, 2, 2), (System(1, (minus(power(X, 3), number(2)),), ()), 1, 3), (System(2, (minus(XX, number(2)), minus(YY, X)), ()), 2, 4),
            (System(1, (power(linear(1, 0, 1), 3),), ()), 0, 2), (System(1, (times(X, linear(1, 0, 1)),), (X,)), 0, 2),
            (System(3, (linear(-1, 0, 1), minus(YY, X), minus(ZZ, Y)), ()), 2, 8), (System(1, (minus(power(X, 60), ONE),), ()), 2, 60),
        ):
            self.assertEqual(many_real(system), real)
            self.assertEqual(len(roots(system)), real)
            self.assertEqual(many_roots(system), many)


if __name__ == "__main__":
    unittest.main()
