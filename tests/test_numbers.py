"""8.1 and 8.2: live real numbers, held against fractions and against roots by whole numbers."""

import unittest
from fractions import Fraction
from itertools import product
from math import gcd, isqrt

from boxedroots.errors import BadNumber, Below, ByNought, NoFraction, NoNumber, NoPolynomial, NoWidth, RootError
from boxedroots.numbers import (
    Number, as_fraction, compared, difference_of, floor_of, number_of, poly_of, product_of, quotient_of, real_roots,
    root_of, sign_of, stretch_of, sum_of,
)
from boxedroots.polys import Poly, degree, minus, number_poly, plus, power, slope, times, worth
from boxedroots.systems import System
from helping import NOUGHT, ONE, W, X, Y, Z, Dice, linear, nested, odd_things, pair
from test_making import from_roots

FAR = 10 ** 80


def refused(test, error, function, *arguments):
    with test.assertRaises(RootError) as caught:
        function(*arguments)
    test.assertIs(type(caught.exception), error)
    test.assertEqual(vars(caught.exception), {})


def frac(over, under=1):
    return number_of(pair(Fraction(over, under)))


def square(many):
    return root_of(frac(many), 2)


def cube(many):
    return root_of(frac(many), 3)


def root_floor(many, high, figures):
    """The greatest integer at most the root of a whole number from 0 on, by this power, times 10 to the figures."""
    goal = many * 10 ** (high * figures)
    low, top = 0, goal + 2
    while top - low > 1:
        middle = (low + top) // 2
        low, top = (middle, top) if middle ** high <= goal else (low, middle)
    return low


def floors_of(number, test):
    """The floors of a number by many figures, held against each other and its stretches."""
    found = [floor_of(number, many) for many in range(0, 61, 5)]
    for one, other in zip(found, found[1:]):
        test.assertEqual(other // 10 ** 5, one)
    return found


class NumberTest(unittest.TestCase):
    def bad(self, part, *arguments):
        with self.assertRaises(BadNumber) as caught:
            Number(*arguments)
        self.assertIs(type(caught.exception), BadNumber)
        self.assertEqual(vars(caught.exception), {"part": part})

    def test_made(self):
        for poly, low, high in (
            (linear(-2, 0, 1), (1, 1), (2, 1)), (linear(-2, 0, 1), (0, 1), (10 ** 29, 1)), (linear(2, 0, -1), (7, 5), (3, 2)),
            (power(linear(-2, 0, 1), 3), (-1, 1), (2, 1)), (times(linear(-2, 0, 1), linear(-7, 1)), (1, 1), (6, 1)),
            (times(linear(-2, 0, 3), linear(-2, 0, 1)), (1, 1), (2, 1)),
        ):
            self.assertEqual(Number(poly, low, high), square(2))
            self.assertEqual(floor_of(Number(poly, low, high), 30), isqrt(2 * 10 ** 60))
        for poly, low, high, wanted in (
            (X, (0, 1), (0, 1), 0), (X, (-1, 1), (0, 1), 0), (X, (0, 1), (1, 1), 0), (linear(-3, 2), (3, 2), (3, 2), Fraction(3, 2)),
            (linear(-3, 2), (1, 1), (3, 2), Fraction(3, 2)), (from_roots((1, 2, 3)), (3, 2), (5, 2), 2),
            (from_roots((1, 2, 3)), (3, 2), (2, 1), 2), (from_roots((1, 2, 3)), (2, 1), (5, 2), 2), (from_roots((1, 2, 3)), (2, 1), (2, 1), 2),
            (power(from_roots((1, 2, 3)), 4), (2, 1), (5, 2), 2), (times(linear(1, 0, 1), linear(5, 1)), (-9, 1), (9, 1), -5),
            (from_roots((0, 1)), (-1, 1), (0, 1), 0), (from_roots((0, 1)), (1, 3), (1, 1), 1),
        ):
            number = Number(poly, low, high)
            self.assertEqual(as_fraction(number), pair(Fraction(wanted)))
            self.assertEqual(number, number_of(pair(Fraction(wanted))))

    def test_the_polynomial(self):
        for poly in (NOUGHT, Y, W, plus(X, Z), times(X, Y), None, 1, "x", (), [X], (X,)):
            self.bad("poly", poly, (0, 1), (1, 1))
            self.bad("poly", poly, None, None)
        for thing in odd_things() + [System(1, (), ()), frac(1), nested(frac(1), 40, lambda part: (part,))]:
            if not isinstance(thing, Poly):
                self.bad("poly", thing, (0, 1), (1, 1))

    def test_the_stretch(self):
        good = (1, 2)
        for low, high in (
            (1, 2), (good, 1), (1, good), ((2, 4), good), (good, (2, 2)), ([1, 2], good), (good, [1, 2]), (good, (1, 3)),
            ((1, 0), good), (good, (1, -1)), ((True, 2), (3, 1)), (good, (3, True)), (None, None), ((0, 2), good), ((1,), good),
        ):
            self.bad("stretch", X, low, high)
            self.bad("stretch", ONE, low, high)
        for thing in odd_things() + [frac(1), System(1, (), ())]:
            if thing != (0, 1):
                self.bad("stretch", X, thing, (1, 1))
                self.bad("stretch", X, (-1, 1), thing)

    def test_the_roots(self):
        for poly, low, high in (
            (ONE, (0, 1), (1, 1)), (number_poly(-3), (0, 1), (0, 1)), (X, (1, 1), (2, 1)), (X, (1, 1), (1, 1)),
            (linear(1, 0, 1), (-9, 1), (9, 1)), (linear(-2, 0, 1), (-2, 1), (2, 1)), (from_roots((1, 2, 3)), (1, 1), (2, 1)),
            (from_roots((1, 2, 3)), (3, 2), (3, 1)), (from_roots((1, 2, 3)), (0, 1), (9, 1)), (linear(-2, 0, 1), (3, 2), (2, 1)),
            (times(power(X, 2), linear(-1, 1)), (0, 1), (1, 1)), (from_roots((0, 1)), (0, 1), (1, 1)), (power(X, 2), (1, 9), (1, 8)),
            (times(linear(-1, 1), linear(-10 ** 29 - 1, 10 ** 29)), (0, 1), (2, 1)), (linear(-2, 0, 1), (1, 1), (7, 5)),
        ):
            self.bad("roots", poly, low, high)

    def test_a_double_root_counts_once(self):
        self.assertEqual(Number(power(X, 2), (-1, 1), (1, 1)), frac(0))
        self.assertEqual(Number(times(power(X, 2), linear(-1, 1)), (-1, 1), (1, 2)), frac(0))
        self.assertEqual(Number(power(linear(-2, 0, 1), 2), (0, 1), (2, 1)), square(2))

    def test_near_roots(self):
        poly = times(linear(-1, 1), linear(-10 ** 20 - 1, 10 ** 20))
        middle = pair(1 + Fraction(1, 2 * 10 ** 20))
        self.assertEqual(as_fraction(Number(poly, (0, 1), middle)), (1, 1))
        self.assertEqual(as_fraction(Number(poly, middle, (2, 1))), (10 ** 20 + 1, 10 ** 20))

    def test_order_of_parts(self):
        self.bad("poly", Y, (1, 1), (0, 1))
        self.bad("stretch", ONE, (1, 1), (0, 1))
        self.bad("roots", ONE, (0, 1), (1, 1))

    def test_equal_only_to_the_same_number(self):
        numbers = [
            frac(0), frac(1, 3), frac(-1, 3), square(2), square(3), difference_of(frac(0), square(2)), cube(2), sum_of(square(2), frac(0)),
            Number(times(linear(-2, 0, 1), linear(-2, 0, 0, 1)), (4, 3), (3, 2)), Number(power(linear(-2, 0, 0, 1), 2), (-5, 1), (5, 1)),
            Number(minus(power(X, 4), number_poly(4)), (1, 1), (2, 1)), Number(linear(1, 3), (-1, 1), (0, 1)), root_of(frac(4), 4),
        ]
        names = ["0", "1/3", "-1/3", "r2", "r3", "-r2", "c2", "r2", "r2", "c2", "r2", "-1/3", "r2"]
        for (one, name), (other, others) in product(zip(numbers, names), repeat=2):
            self.assertIs(one == other, name == others)
            self.assertIs(one != other, name != others)
            self.assertEqual(compared(one, other) == 0, name == others)

    def test_equal_not_to_one_that_lies_near(self):
        near = 10 ** 25
        shifted = linear(1 - 2 * near ** 2, -2 * near, near ** 2)
        for poly, low, high in (
            (linear(-2 * near ** 2 - 1, 0, near ** 2), (1, 1), (2, 1)), (shifted, (1, 1), (2, 1)),
            (linear(-2 * near - 1, 0, near), (7, 5), (3, 2)), (times(linear(-2 * near - 1, 0, near), linear(-3, 1)), (0, 1), (2, 1)),
            (linear(-isqrt(2 * near ** 2), near), (1, 1), (2, 1)), (linear(-isqrt(2 * near ** 2) - 1, near), (1, 1), (2, 1)),
        ):
            number = Number(poly, low, high)
            self.assertIs(number == square(2), False)
            self.assertIs(square(2) == number, False)
            self.assertIs(number == Number(times(poly, poly), low, high), True)
            self.assertIs(number == Number(times(poly, linear(-5, 1)), low, high), True)
            self.assertEqual(abs(compared(number, square(2))), 1)
        # Both at once, on the same polynomial.
        both = times(linear(-2, 0, 1), linear(-2 * near - 1, 0, near))
        one, other = real_roots(both)[2:]
        self.assertIs(one == other, False)
        self.assertIs(one == square(2), True)
        self.assertIs(other == Number(linear(-2 * near - 1, 0, near), (1, 1), (2, 1)), True)

    def test_equal_to_nothing_else(self):
        for number, thing in product((frac(0), frac(1), square(2)), odd_things() + [0, 1, (0, 1), (1, 1), 1.0, linear(-2, 0, 1)]):
            self.assertIs(number == thing, False)
            self.assertIs(thing == number, False)

    def test_number_of(self):
        for over, under in ((0, 1), (1, 1), (-7, 3), (10 ** 30 - 1, 10 ** 29)):
            place = pair(Fraction(over, under))
            self.assertEqual(as_fraction(number_of(place)), place)
            self.assertEqual(number_of(place), number_of(place))
        for thing in ((0, 2), (2, 4), (1, 0), (1, -1), 1, "1", None, [1, 2], (1,), (True, 1), (1, True), (1, 2, 3), frac(1)):
            refused(self, NoFraction, number_of, thing)
        for thing in odd_things():
            if thing != (0, 1):
                refused(self, NoFraction, number_of, thing)


NUMBERS = [
    (Fraction(over, under), frac(over, under)) for over, under in ((0, 1), (1, 1), (-1, 1), (1, 2), (-1, 3), (22, 7), (-355, 113))
]


class AskedTest(unittest.TestCase):
    def test_floors_of_fractions(self):
        for worth_, number in NUMBERS:
            for many in (0, 1, 5, 59, 60):
                found = floor_of(number, many)
                self.assertEqual(found, worth_ * 10 ** many // 1)
                self.assertIs(type(found), int)
        self.assertEqual(floor_of(frac(-1, 3), 6), -333334)
        self.assertEqual(floor_of(Number(linear(-1, 0, 16), (-1, 1), (0, 1)), 6), -250000)

    def test_floors_of_roots(self):
        for many, high in product((2, 3, 5, 7, 10 ** 29 + 1), (2, 3, 4, 5, 6)):
            number = root_of(frac(many), high)
            for figures in (0, 7, 40):
                self.assertEqual(floor_of(number, figures), root_floor(many, high, figures))
            self.assertEqual(floor_of(difference_of(frac(0), number), 11), -root_floor(many, high, 11) - 1)
            floors_of(number, self)

    def test_e06(self):
        found = real_roots(linear(-2, 0, 1))
        self.assertEqual(floor_of(found[1], 5), 141421)
        self.assertEqual(as_fraction(product_of(found[0], found[1])), (-2, 1))

    def test_floor_of_what_comes_out_even(self):
        one = Number(times(linear(-2, 0, 1), linear(-3, 2)), (71, 50), (2, 1))
        self.assertEqual([floor_of(one, many) for many in (0, 1, 2)], [1, 15, 150])
        two = Number(times(linear(-3, 0, 1), linear(5, 10)), (-1, 1), (0, 1))
        self.assertEqual([floor_of(two, many) for many in (0, 1, 2)], [-1, -5, -50])

    def test_no_number_for_floors(self):
        for many in (61, -1, True, False, None, "1", (1,), 10 ** 29):
            refused(self, NoNumber, floor_of, square(2), many)
        for thing in odd_things():
            refused(self, NoNumber, floor_of, frac(1), thing)

    def test_stretches(self):
        dice = Dice(51)
        for number in [number for _, number in NUMBERS] + [square(2), cube(-5), sum_of(square(2), square(3))]:
            for width in ((1, 1), (1, 3), (7, 2), (10 ** 29, 1), (1, 10 ** 29), dice.fraction()):
                if width[0] <= 0:
                    continue
                low, high = stretch_of(number, width)
                self.assertEqual((pair(Fraction(*low)), pair(Fraction(*high))), (low, high))
                self.assertTrue(0 <= Fraction(*high) - Fraction(*low) <= Fraction(*width))
                self.assertGreaterEqual(compared(number, number_of(low)), 0)
                self.assertLessEqual(compared(number, number_of(high)), 0)
                self.assertEqual(stretch_of(number, width), (low, high))
        same = [square(2), Number(times(linear(-2, 0, 1), linear(5, 1)), (0, 1), (9, 1))]
        self.assertEqual(stretch_of(same[0], (1, 100)), stretch_of(same[1], (1, 100)))

    def test_no_width(self):
        for thing in ((0, 1), (-1, 2), (2, 4), (1, 0), 1, None, "1", [1, 2], (1,), (True, 2), (1, True), frac(1)):
            refused(self, NoWidth, stretch_of, square(2), thing)
        for thing in odd_things():
            refused(self, NoWidth, stretch_of, frac(1), thing)

    def test_signs(self):
        root = square(2)
        for sign, poly in (
            (0, linear(-2, 0, 1)), (0, NOUGHT), (1, ONE), (-1, number_poly(-1)), (1, X), (-1, linear(-3, 2)), (0, power(linear(-2, 0, 1), 5)),
            (1, linear(-7, 5)), (-1, linear(-3, 2)),
            (1, linear(-141421356237309504880168872420, 10 ** 29)), (0, times(linear(-2, 0, 1), linear(9, 1))),
            (-1, linear(-141421356237309504880168872421, 10 ** 29)), (1, power(linear(-7, 5), 2)), (-1, minus(linear(-2, 0, 1), ONE)),
        ):
            self.assertEqual(sign_of(poly, root), sign)
            self.assertEqual(sign_of(poly, Number(times(linear(-2, 0, 1), linear(-9, 1)), (0, 1), (5, 1))), sign)
        for worth_, number in NUMBERS:
            for poly in (X, linear(1, 3), linear(-1, 2, 3), linear(-22, 7), NOUGHT):
                found = worth(poly, (pair(worth_),) + ((0, 1),) * 3)[0]
                self.assertEqual(sign_of(poly, number), (found > 0) - (found < 0))
        for poly in (Y, W, plus(X, Y), None, 1, "x", [X]):
            refused(self, NoPolynomial, sign_of, poly, root)
        for thing in odd_things():
            if not isinstance(thing, Poly):
                refused(self, NoPolynomial, sign_of, thing, root)

    def test_compared(self):
        row = [
            frac(-3), cube(-2), frac(-5, 4), frac(-1, 3), frac(0), frac(1, 10 ** 29), frac(1), cube(2), frac(63, 50), square(2),
            frac(141421356237309504880168872421, 10 ** 29), square(3), frac(7, 4), sum_of(square(2), frac(1, 2)), sum_of(square(2), square(3)),
        ]
        for (at, one), (other_at, other) in product(enumerate(row), repeat=2):
            self.assertEqual(compared(one, other), (at > other_at) - (at < other_at))

    def test_poly_of(self):
        for number in [square(2), cube(2), sum_of(square(2), cube(3)), frac(-2, 3), Number(power(linear(-2, 0, 1), 4), (0, 1), (2, 1))]:
            poly = poly_of(number)
            self.assertIs(type(poly), Poly)
            self.assertEqual(sign_of(poly, number), 0)
            self.assertEqual(max([k for powers, _ in poly.terms for k in range(4) if powers[k]]), 0)
            self.assertGreater(degree(poly, 0), 0)
            self.assertNotEqual(sign_of(slope(poly, 0), number), 0)
            self.assertEqual(poly_of(number), poly)
            whole = len(real_roots(times(poly, poly)))
            self.assertEqual(len(real_roots(poly)), whole)

    def test_as_fraction(self):
        for worth_, number in NUMBERS:
            self.assertEqual(as_fraction(number), pair(worth_))
        for number in (square(2), cube(2), sum_of(square(2), square(3)), root_of(frac(2, 3), 6)):
            self.assertIsNone(as_fraction(number))
        hidden = times(times(linear(-2, 0, 1), linear(-22, 7)), linear(355, 113))
        self.assertEqual([as_fraction(number) for number in real_roots(hidden)], [(-355, 113), None, None, (22, 7)])
        self.assertEqual(as_fraction(Number(times(linear(-10 ** 29 - 1, 10 ** 29), linear(-3, 0, 1)), (1, 2), (3, 2))), (10 ** 29 + 1, 10 ** 29))


class ReckonedTest(unittest.TestCase):
    def test_fractions(self):
        for (one, first), (other, second) in product(NUMBERS, repeat=2):
            self.assertEqual(as_fraction(sum_of(first, second)), pair(one + other))
            self.assertEqual(as_fraction(difference_of(first, second)), pair(one - other))
            self.assertEqual(as_fraction(product_of(first, second)), pair(one * other))
            if other != 0:
                self.assertEqual(as_fraction(quotient_of(first, second)), pair(one / other))
            else:
                refused(self, ByNought, quotient_of, first, second)

    def test_roots_by_figures(self):
        """Held against what comes of roots by 80 figures."""
        worths = [(Fraction(root_floor(many, high, 80), FAR), root_of(frac(many), high)) for many, high in (
            (2, 2), (3, 2), (2, 3), (7, 4), (5, 5),
        )]
        worths += [(-one, difference_of(frac(0), number)) for one, number in worths[:3]] + NUMBERS[3:]
        for (one, first), (other, second) in product(worths, repeat=2):
            for function, wanted in (
                (sum_of, one + other), (difference_of, one - other), (product_of, one * other), (quotient_of, one / other),
            ):
                found = function(first, second)
                self.assertLessEqual(abs(Fraction(floor_of(found, 40), 10 ** 40) - wanted), Fraction(2, 10 ** 40))

    def test_laws(self):
        a, b, c = square(2), square(3), cube(-2)
        self.assertEqual(sum_of(a, b), sum_of(b, a))
        self.assertEqual(sum_of(sum_of(a, b), c), sum_of(a, sum_of(b, c)))
        self.assertEqual(product_of(product_of(a, b), c), product_of(a, product_of(b, c)))
        self.assertEqual(product_of(a, sum_of(b, c)), sum_of(product_of(a, b), product_of(a, c)))
        self.assertEqual(quotient_of(product_of(a, b), b), a)
        self.assertEqual(difference_of(sum_of(a, b), b), a)
        self.assertEqual(difference_of(c, c), frac(0))
        self.assertEqual(quotient_of(c, c), frac(1))
        self.assertEqual(product_of(a, a), frac(2))
        self.assertEqual(product_of(c, frac(0)), frac(0))
        self.assertEqual(product_of(a, b), square(6))
        self.assertEqual(sum_of(a, a), square(8))
        five = sum_of(frac(5), product_of(frac(2), square(6)))
        self.assertEqual(root_of(five, 2), sum_of(a, b))
        golden = quotient_of(sum_of(frac(1), square(5)), frac(2))
        self.assertEqual(product_of(golden, golden), sum_of(golden, frac(1)))
        self.assertEqual(difference_of(root_of(sum_of(frac(2), square(5)), 3), root_of(difference_of(square(5), frac(2)), 3)), frac(1))

    def test_long_sums(self):
        number = frac(0)
        for _ in range(4):
            number = sum_of(number, square(2))
        self.assertEqual(number, square(32))
        number = frac(1)
        for _ in range(4):
            number = product_of(number, cube(2))
        self.assertEqual(number, product_of(frac(2), cube(2)))

    def test_by_nought(self):
        noughts = [frac(0), Number(times(X, linear(-2, 0, 1)), (-1, 1), (1, 1)), difference_of(square(2), square(2))]
        for one, other in product([square(2), frac(0), frac(-3)], noughts):
            refused(self, ByNought, quotient_of, one, other)
        small = frac(1, 10 ** 29)
        self.assertEqual(quotient_of(frac(1), small), frac(10 ** 29))
        self.assertEqual(quotient_of(frac(0), small), frac(0))
        self.assertEqual(quotient_of(frac(1), Number(times(X, linear(-2, 0, 1)), (1, 1), (2, 1))), square(Fraction(1, 2)))

    def test_what_goes_in_is_unchanged(self):
        a, b = square(2), Number(times(linear(-2, 0, 0, 1), linear(-3, 1)), (0, 1), (2, 1))
        before = [dict(vars(a)), dict(vars(b))]
        for function in (sum_of, difference_of, product_of, quotient_of, compared):
            first, second = function(a, b), function(square(2), cube(2))
            self.assertEqual(first, second)
        floor_of(a, 60), stretch_of(b, (1, 10 ** 20)), as_fraction(a), root_of(b, 3), sign_of(X, b), poly_of(b)
        self.assertEqual([dict(vars(a)), dict(vars(b))], before)


class RootsTest(unittest.TestCase):
    def test_roots(self):
        for many in range(1, 7):
            for worth_ in (Fraction(0), Fraction(1), Fraction(3, 2), Fraction(10 ** 4), Fraction(1, 10 ** 4)):
                root = root_of(frac(worth_ ** many), many)
                self.assertEqual(as_fraction(root), pair(worth_))
                if many % 2 == 1:
                    self.assertEqual(as_fraction(root_of(frac(-worth_ ** many), many)), pair(-worth_))
                elif worth_ != 0:
                    refused(self, Below, root_of, frac(-worth_), many)
            for number in (square(2), cube(5), sum_of(square(2), square(3))):
                root = root_of(number, many)
                back = frac(1)
                for _ in range(many):
                    back = product_of(back, root) if many < 4 else back
                self.assertTrue(many > 3 or back == number)
                self.assertEqual(sign_of(X, root), 1)
                floor = floor_of(root, 20)
                self.assertTrue(compared(frac(Fraction(floor, 10 ** 20) ** many), number) <= 0)
                self.assertTrue(compared(frac(Fraction(floor + 1, 10 ** 20) ** many), number) > 0)

    def test_roots_of_numbers_below(self):
        low = difference_of(frac(0), square(2))
        for many in (1, 3, 5):
            root = root_of(low, many)
            self.assertEqual(root, difference_of(frac(0), root_of(square(2), many)))
        for many in (2, 4, 6):
            refused(self, Below, root_of, low, many)
            refused(self, Below, root_of, frac(-1, 10 ** 29), many)
            self.assertEqual(root_of(difference_of(low, low), many), frac(0))
            self.assertEqual(root_of(Number(times(X, linear(-2, 0, 1)), (-1, 1), (1, 1)), many), frac(0))

    def test_wrong_numbers(self):
        for many in (0, 7, -1, True, False, None, "2", (2,), 10 ** 29):
            refused(self, NoNumber, root_of, frac(-4), many)
        for thing in odd_things():
            refused(self, NoNumber, root_of, frac(4), thing)

    def test_real_roots_that_are_known(self):
        dice = Dice(52)
        for _ in range(30):
            roots = sorted({Fraction(*dice.fraction()) for _ in range(dice.throw(0, 6))})
            poly = number_poly(dice.choose([-3, 1, 2]))
            for root in roots:
                poly = times(poly, power(linear(-root.numerator, root.denominator), dice.throw(1, 3)))
            for _ in range(dice.throw(0, 2)):
                poly = times(poly, linear(dice.throw(5, 9), dice.throw(-2, 2), 1))
            found = real_roots(poly)
            self.assertIs(type(found), list)
            self.assertEqual([as_fraction(number) for number in found], [pair(root) for root in roots])

    def test_real_roots_of_many_kinds(self):
        for poly, many in (
            (ONE, 0), (linear(1, 0, 1), 0), (X, 1), (power(X, 60), 1), (minus(power(X, 60), number_poly(2)), 2), (power(linear(-2, 0, 1), 9), 2),
            (from_roots(range(-12, 13)), 25), (times(linear(-1, 1), linear(-10 ** 29 - 1, 10 ** 29)), 2), (linear(-10 ** 30 + 1, 0, 1), 2),
            (minus(power(X, 30), power(linear(-1, 1000), 2)), 4), (power(power(linear(-1, 0, 1), 10), 3), 2), (linear(1, -3, 0, 1), 3),
            (plus(power(X, 59), X), 1), (times(minus(power(X, 3), number_poly(2)), minus(power(X, 3), number_poly(3))), 2),
            (minus(power(power(X, 60), 2), ONE), 2), (power(plus(power(X, 4), ONE), 15), 0),
        ):
            found = real_roots(poly)
            self.assertEqual(len(found), many)
            for one, other in zip(found, found[1:]):
                self.assertEqual(compared(one, other), -1)
            for number in found:
                self.assertIs(type(number), Number)
                self.assertEqual(sign_of(poly, number), 0)
            again = real_roots(poly)
            self.assertEqual(again, found)
            self.assertIsNot(again, found)

    def test_no_polynomial(self):
        for poly in (NOUGHT, Y, W, plus(X, Y), times(X, Z), None, 1, "x", [X], (X,)):
            refused(self, NoPolynomial, real_roots, poly)
        for thing in odd_things() + [frac(1), System(1, (), ())]:
            if not isinstance(thing, Poly) or not thing.terms:
                refused(self, NoPolynomial, real_roots, thing)

    def test_what_was_returned_goes_on(self):
        high = power(power(linear(-1, 1, 3), 20), 3)
        self.assertEqual(len(real_roots(high)), 2)
        great = frac(10 ** 29)
        for _ in range(6):
            great = product_of(great, great)
        self.assertEqual(as_fraction(great), (10 ** (29 * 64), 1))
        self.assertEqual(floor_of(root_of(great, 4), 3), 10 ** (29 * 16 + 3))
        self.assertEqual(gcd(*as_fraction(great)), 1)


if __name__ == "__main__":
    unittest.main()
