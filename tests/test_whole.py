"""All examples of the document, and that what one function says of a system agrees with what each other one says."""

import unittest
from fractions import Fraction

from boxedroots.bernstein import sign_over
from boxedroots.boxings import boxes, boxing_of, is_boxing
from boxedroots.chains import is_regular
from boxedroots.covers import is_cover, leaf_of, leaves
from boxedroots.desk import Desk
from boxedroots.divide import divided
from boxedroots.errors import Endless
from boxedroots.making import cover_of
from boxedroots.numbers import as_fraction, compared, floor_of, number_of, product_of, real_roots
from boxedroots.polys import Poly, degree, minus, number_poly, plus, times, top, unknown_poly
from boxedroots.reading import read_poly, read_system
from boxedroots.roots import greatest_at, kept, least_at, many_real, nearest, roots
from boxedroots.systems import System, is_root
from boxedroots.telling import has_root, is_endless, many_roots, met, same_roots, vanishes, vanishing
from boxedroots.texts import poly_text, system_text
from helping import ONE, Dice, pair
from test_making import KNOWN, OVER, any_poly, dense

X, Y = unknown_poly(0), unknown_poly(1)


class ExamplesTest(unittest.TestCase):
    def setUp(self):
        self.c = read_poly("x^2 + y^2 - 5")
        self.l = read_poly("x - 2*y")
        self.s = System(2, (self.c, self.l), ())

    def test_e01(self):
        self.assertEqual(poly_text(times(minus(X, Y), plus(X, Y))), "x^2 - y^2")
        self.assertEqual(divided(self.c, self.l, 0), (2, read_poly("x + 2*y"), read_poly("5*y^2 - 5")))

    def test_e02(self):
        self.assertEqual(many_roots(self.s), 2)
        self.assertIs(vanishes(self.s, read_poly("y^2 - 1")), True)
        self.assertIs(is_endless(System(2, (self.l,), ())), True)

    def test_e03(self):
        self.assertEqual(sign_over(self.c, (((0, 1), (1, 1)), ((0, 1), (1, 1)))), -1)

    def test_e04(self):
        thing = (2, (((-2, 1), (-1, 1), ()), ((-1, 1), (1, 1), None), ((1, 1), (2, 1), ())))
        self.assertIs(is_boxing((read_poly("x^2 - 2"),), thing), True)

    def test_e05(self):
        found = [(root.value(0) == number_of((2, 1)), root.value(1) == number_of((-1, 1))) for root in roots(self.s)]
        self.assertEqual(found, [(False, True), (True, False)])

    def test_e06(self):
        r = real_roots(read_poly("x^2 - 2"))
        self.assertEqual(floor_of(r[1], 5), 141421)
        self.assertEqual(as_fraction(product_of(r[0], r[1])), (-2, 1))

    def test_e07(self):
        self.assertIs(is_cover(System(1, (X, number_poly(1)), ()), (("none", (), (Poly(()), number_poly(1))),)), True)


def six_places(number):
    """A number as a desk writes it, by its floor."""
    floor = floor_of(number, 6)
    whole, rest = divmod(abs(floor), 10 ** 6)
    return ("-" if floor < 0 else "") + str(whole) + "." + str(rest).zfill(6)


class AgreeTest(unittest.TestCase):
    def agree(self, system, dice):
        many = many_roots(system)
        found = leaves(system, cover_of(system))
        self.assertIs(has_root(system), bool(found))
        self.assertIs(is_endless(system), many is None)
        self.assertIs(vanishes(system, ONE), not has_root(system))
        back = read_system(system_text(system))
        self.assertEqual(back, system)
        self.assertIs(same_roots(system, back), True)
        for poly in system.equations:
            self.assertIs(vanishes(system, poly), True)
        for poly in system.barred:
            self.assertIs(vanishes(system, poly), not has_root(system))
        if len(system.barred) < 6:
            self.assertIs(vanishing(system, ONE) is None, has_root(system))
        self.assertIs(same_roots(met(system, system), system), True)
        if many is None:
            self.assertRaises(Endless, roots, system)
            self.assertRaises(Endless, many_real, system)
        else:
            self.agree_on_roots(system, dice, many, found)
        self.agree_at_a_desk(system, many)

    def agree_on_roots(self, system, dice, many, found):
        self.assertEqual(many, sum(self.height(chain) for chain, _ in found))
        real = roots(system)
        self.assertEqual(len(real), many_real(system))
        self.assertLessEqual(len(real), many)
        self.assertEqual((many - len(real)) % 2, 0)
        in_boxes = 0
        for chain, _ in found:
            self.assertTrue(is_regular(system.many, chain))
            in_boxes += len(boxes(chain, boxing_of(chain)))
        self.assertEqual(in_boxes, len(real))
        for root in real:
            self.assertEqual([root.sign_at(poly) for poly in system.equations], [0] * len(system.equations))
            self.assertNotIn(0, [root.sign_at(poly) for poly in system.barred])
            values = [root.value(k) for k in range(system.many)]
            point = tuple([as_fraction(value) for value in values])
            if None not in point:
                self.assertTrue(is_root(system, point))
                self.assertIsNotNone(leaf_of(system, cover_of(system), point))
            self.assertEqual([root.value_of(unknown_poly(k)) for k in range(system.many)], values)
        poly = dice.poly(tuple(range(system.many)), 2, 3, 4)
        values = [root.value_of(poly) for root in real]
        for sign in (-1, 0, 1):
            wanted = [root for root, value in zip(real, values) if compared(value, number_of((0, 1))) == sign]
            self.assertEqual(kept(system, ((poly, (sign,)),)), wanted)
        self.assertEqual(least_at(system, poly), [r for r, v in zip(real, values) if all(compared(v, o) <= 0 for o in values)])
        self.assertEqual(greatest_at(system, poly), [r for r, v in zip(real, values) if all(compared(v, o) >= 0 for o in values)])
        self.assertLessEqual(len(nearest(system, (dice.fraction(),) * system.many)), len(real))
        if vanishes(system, poly):
            self.assertEqual([root.sign_at(poly) for root in real], [0] * len(real))
        if many == len(real):
            self.assertIs(vanishes(system, poly), all(root.sign_at(poly) == 0 for root in real))

    def height(self, chain):
        found = 1
        for poly in chain:
            found *= degree(poly, top(poly))
        return found

    def agree_at_a_desk(self, system, many):
        desk = Desk()
        desk.tell(f"let a {system.many}")
        lines = system_text(system).split("\n")[1:-1]
        for line in lines:
            self.assertEqual(desk.tell("a : " + line), "ok")
        self.assertEqual(desk.tell("show a"), "; ".join([f"unknowns {system.many}"] + lines))
        self.assertEqual(desk.tell("count a"), "endless" if many is None else str(many))
        self.assertEqual(desk.tell("real a"), "endless" if many is None else str(many_real(system)))
        for poly in system.equations:
            self.assertEqual(desk.tell("zero a " + poly_text(poly)), "yes")
        if many is not None:
            for at, root in enumerate(roots(system)):
                values = [six_places(root.value(k)) for k in range(system.many)]
                self.assertEqual(desk.tell(f"root a {at}"), " ".join(values))
                for poly in system.equations + system.barred:
                    self.assertEqual(desk.tell(f"sign a {at} {poly_text(poly)}"), str(root.sign_at(poly)))

    def test_known_systems(self):
        dice = Dice(91)
        for _, system in KNOWN + OVER:
            self.agree(system, dice)

    def test_many_kinds(self):
        dice = Dice(92)
        for _ in range(60):
            many = dice.throw(1, 3)
            equations = tuple([any_poly(dice, many) for _ in range(dice.throw(many, 4))])
            barred = tuple([any_poly(dice, many) for _ in range(max(0, dice.throw(-2, 2)))])
            self.agree(System(many, equations, barred), dice)

    def test_dense_systems(self):
        dice = Dice(93)
        for many, highs in ((1, (6,)), (2, (2, 2)), (2, (3, 2)), (3, (2, 2, 1)), (3, (2, 2, 2)), (2, (3,))):
            for _ in range(2):
                self.agree(System(many, tuple([dense(dice, high, range(many)) for high in highs]), ()), dice)

    def test_values_by_halving(self):
        """A root of one unknown is where the polynomial changes its sign, as Fractions tell."""
        poly = read_poly("x^3 - 3*x + 1")
        for root in roots(System(1, (poly,), ())):
            floor = floor_of(root.value(0), 20)
            low, high = Fraction(floor, 10 ** 20), Fraction(floor + 1, 10 ** 20)
            self.assertLess((low ** 3 - 3 * low + 1) * (high ** 3 - 3 * high + 1), 0)
            self.assertEqual(root.sign_at(minus(times(number_poly(pair(low)[1]), X), number_poly(pair(low)[0]))), 1)


if __name__ == "__main__":
    unittest.main()
