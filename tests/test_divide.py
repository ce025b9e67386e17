"""1.3: dividing and eliminating."""

import unittest

from boxedroots.divide import divided, eliminated
from boxedroots.errors import NoDivisor, NoUnknown
from boxedroots.polys import (
    Poly, degree, lead, minus, number_poly, plus, power, slope, times, top, unknown_poly,
)
from helping import NOUGHT, ONE, Dice, W, X, Y, Z, is_right, linear, made, odd_things, stands_at

CIRCLE = made({(0, 0, 0, 0): -5, (0, 2, 0, 0): 1, (2, 0, 0, 0): 1})
LINE = made({(0, 1, 0, 0): -2, (1, 0, 0, 0): 1})


def table_of(one, other, k):
    """The table of the determinant, row by row, as the document describes it."""
    high, low = degree(one, k), degree(other, k)
    rows = [times(one, power(unknown_poly(k), at)) for at in range(low - 1, -1, -1)]
    rows += [times(other, power(unknown_poly(k), at)) for at in range(high - 1, -1, -1)]
    return [[stands_at(row, k, at) for at in range(high + low - 1, -1, -1)] for row in rows]


def determinant(table):
    """By the first row, the parts of the table being looked up if they come again."""
    known = {}

    def part(row, columns):
        if row == len(table):
            return ONE
        if columns not in known:
            found = NOUGHT
            for place, column in enumerate(columns):
                if table[row][column].terms:
                    below = part(row + 1, columns[:place] + columns[place + 1:])
                    found = (plus, minus)[place % 2](found, times(table[row][column], below))
            known[columns] = found
        return known[columns]

    return part(0, tuple(range(len(table))))


class DividedTest(unittest.TestCase):
    def check(self, one, other, k):
        found = divided(one, other, k)
        self.assertIs(type(found), tuple)
        h, q, r = found
        self.assertIs(type(h), int)
        self.assertEqual(h, max(0, degree(one, k) - degree(other, k) + 1))
        self.assertTrue(is_right(q) and is_right(r))
        factor = ONE
        for _ in range(h):
            factor = times(factor, lead(other, k))
        self.assertEqual(times(factor, one), plus(times(q, other), r))
        self.assertLess(degree(r, k), degree(other, k))
        return found

    def test_the_example(self):
        self.assertEqual(divided(CIRCLE, LINE, 0), (
            2, made({(1, 0, 0, 0): 1, (0, 1, 0, 0): 2}), made({(0, 2, 0, 0): 5, (0, 0, 0, 0): -5}),
        ))

    def test_the_example_by_the_other_unknown(self):
        self.assertEqual(self.check(CIRCLE, LINE, 1)[2], made({(0, 0, 0, 0): -20, (2, 0, 0, 0): 5}))

    def test_numbers_ahead(self):
        self.assertEqual(self.check(linear(1, 0, 1), linear(1, 2), 0), (2, linear(-1, 2), number_poly(5)))
        self.assertEqual(self.check(linear(-1, 0, 0, 1), linear(-1, 1), 0), (3, linear(1, 1, 1), NOUGHT))

    def test_the_power_of_the_lead_counts_steps_that_are_spared(self):
        # x^4 + 1 by 2 x^2: one step is needed, but h is 3.
        self.assertEqual(self.check(linear(1, 0, 0, 0, 1), linear(0, 0, 2), 0), (
            3, linear(0, 0, 4), number_poly(8),
        ))

    def test_polynomials_ahead(self):
        other = plus(times(plus(Y, Z), X), ONE)
        h, q, r = self.check(power(X, 2), other, 0)
        self.assertEqual((h, r), (2, ONE))
        self.assertEqual(q, minus(times(plus(Y, Z), X), ONE))

    def test_nothing_to_divide(self):
        for one in (NOUGHT, ONE, Y, plus(X, Y), times(power(Y, 9), X)):
            self.assertEqual(self.check(one, plus(power(X, 2), Y), 0), (0, NOUGHT, one))

    def test_nought_divided(self):
        self.assertEqual(divided(NOUGHT, X, 0), (0, NOUGHT, NOUGHT))

    def test_just_as_high(self):
        self.assertEqual(self.check(plus(times(Y, X), Z), minus(times(W, X), ONE), 0), (
            1, Y, plus(times(W, Z), Y),
        ))

    def test_at_many(self):
        dice = Dice(5)
        for _ in range(300):
            k = dice.throw(0, 3)
            one, other = dice.poly(most=4, terms=6), dice.poly(most=3, terms=4)
            if degree(other, k) > 0:
                self.check(one, other, k)

    def test_products_leave_nothing(self):
        dice = Dice(6)
        for _ in range(60):
            k = dice.throw(0, 3)
            one, other = dice.poly(terms=4), dice.poly(terms=4)
            if degree(other, k) > 0 and one.terms:
                self.assertEqual(self.check(times(one, other), other, k)[2], NOUGHT)

    def test_great_ones(self):
        great = power(plus(plus(X, Y), ONE), 30)
        self.assertEqual(len(great.terms), 496)
        self.assertEqual(self.check(great, plus(X, Y), 0)[2], ONE)
        tall = power(power(X, 60), 2)
        self.assertEqual(self.check(tall, minus(X, Y), 0)[2], power(power(Y, 60), 2))
        self.assertEqual(self.check(minus(tall, ONE), minus(power(X, 60), ONE), 0)[2], NOUGHT)
        self.assertEqual(divided(linear(1, 1), plus(tall, Y), 0), (0, NOUGHT, linear(1, 1)))
        heavy = times(power(number_poly(10 ** 29), 20), X)
        self.assertEqual(divided(heavy, minus(X, ONE), 0), (1, lead(heavy, 0), lead(heavy, 0)))
        self.assertEqual(self.check(power(X, 3), plus(heavy, ONE), 0)[2], number_poly(-1))

    def test_what_was_returned_is_divided_further(self):
        h, q, r = divided(power(plus(X, Y), 20), minus(times(Z, X), ONE), 0)
        self.assertEqual(h, 20)
        self.check(q, r, 1)


class EliminatedTest(unittest.TestCase):
    def check(self, one, other, k):
        found = eliminated(one, other, k)
        self.assertIs(type(found), tuple)
        a, b, r = found
        self.assertTrue(is_right(a) and is_right(b) and is_right(r))
        self.assertEqual(plus(times(a, one), times(b, other)), r)
        self.assertEqual(degree(r, k), 0)
        return r

    def check_wholly(self, one, other, k):
        r = self.check(one, other, k)
        self.assertEqual(r, determinant(table_of(one, other, k)))
        return r

    def test_lines(self):
        self.assertEqual(self.check_wholly(linear(3, 2), linear(7, 5), 0), number_poly(2 * 7 - 3 * 5))
        self.assertEqual(self.check_wholly(linear(7, 5), linear(3, 2), 0), number_poly(3 * 5 - 2 * 7))
        self.assertEqual(self.check_wholly(minus(X, Y), minus(X, Z), 0), minus(Y, Z))

    def test_circle_and_line(self):
        self.assertEqual(self.check_wholly(CIRCLE, LINE, 0), made({(0, 0, 0, 0): -5, (0, 2, 0, 0): 5}))
        self.assertEqual(self.check_wholly(LINE, CIRCLE, 0), made({(0, 0, 0, 0): -5, (0, 2, 0, 0): 5}))
        self.assertEqual(self.check_wholly(CIRCLE, LINE, 1), made({(0, 0, 0, 0): -20, (2, 0, 0, 0): 5}))

    def test_with_the_slope(self):
        # Of a x^2 + b x + c it is a (4 a c - b^2).
        square = plus(plus(times(Y, power(X, 2)), times(Z, X)), W)
        self.assertEqual(
            self.check_wholly(square, slope(square, 0), 0),
            times(Y, minus(times(number_poly(4), times(Y, W)), power(Z, 2))),
        )

    def test_at_many(self):
        dice = Dice(7)
        for unknowns in ((0,), (0, 1), (1, 3), (0, 1, 2), (0, 1, 2, 3)):
            for _ in range(60):
                k = dice.choose(unknowns)
                one = dice.poly(unknowns, most=dice.throw(1, 4), terms=4)
                other = dice.poly(unknowns, most=dice.throw(1, 3), terms=4)
                if degree(one, k) > 0 and degree(other, k) > 0:
                    self.check_wholly(one, other, k)
                    self.check_wholly(other, one, k)

    def test_dense_ones(self):
        dice = Dice(8)
        for high in range(1, 6):
            for low in range(1, 5):
                one = linear(*[dice.throw(-9, 9) for _ in range(high)], dice.throw(1, 9))
                other = linear(*[dice.throw(-9, 9) for _ in range(low)], -dice.throw(1, 9))
                self.check_wholly(one, other, 0)

    def test_exchanged_arguments(self):
        dice = Dice(9)
        for high in range(1, 5):
            for low in range(1, 5):
                one = plus(power(X, high), dice.poly((0, 1), most=high - 1, terms=3))
                other = plus(times(Y, power(X, low)), dice.poly((0, 1), most=low - 1, terms=3))
                sign = -1 if high * low % 2 else 1
                self.assertEqual(
                    self.check_wholly(one, other, 0), times(number_poly(sign), self.check_wholly(other, one, 0)),
                )

    def test_remainders_that_fall_by_more_than_one(self):
        for one, other in (
            (linear(1, 0, 0, 0, 0, 0, 1), linear(2, 0, 0, 0, 3)), (linear(1, 1, 0, 0, 0, 0, 1), linear(2, 0, 3)),
            (linear(1, 0, 0, 0, 2, 1), linear(0, 3, 0, 0, 2, 1)), (linear(0, 0, 0, 1), linear(1, 0, 0, 0, 1)),
            (plus(power(X, 5), Y), plus(times(Y, power(X, 5)), ONE)), (plus(power(X, 4), Y), plus(times(Z, X), Y)),
            (plus(times(Z, power(X, 5)), times(X, Y)), plus(times(Y, power(X, 3)), Z)),
            (plus(power(X, 6), times(Y, X)), plus(times(number_poly(3), power(X, 3)), times(Z, X))),
        ):
            self.check_wholly(one, other, 0)
            self.check_wholly(other, one, 0)

    def test_a_common_factor(self):
        dice = Dice(10)
        for _ in range(60):
            k = dice.throw(0, 3)
            one, other, shared = dice.poly(terms=3), dice.poly(terms=3), dice.poly(terms=3)
            if one.terms and other.terms and degree(shared, k) > 0:
                self.assertEqual(self.check(times(one, shared), times(other, shared), k), NOUGHT)
        self.assertEqual(self.check_wholly(LINE, LINE, 0), NOUGHT)
        self.assertEqual(self.check_wholly(power(LINE, 3), power(LINE, 2), 0), NOUGHT)
        self.assertEqual(self.check_wholly(power(CIRCLE, 2), slope(power(CIRCLE, 2), 0), 0), NOUGHT)

    def test_unlike_factors(self):
        # r of a product is the product of the r.
        one, other, third = plus(power(X, 2), Y), plus(times(Z, X), ONE), minus(power(X, 3), X)
        self.assertEqual(
            self.check(times(one, other), third, 0), times(self.check(one, third, 0), self.check(other, third, 0)),
        )

    def test_as_high_as_by_hand(self):
        # By x - y it is, the degree being even, the first one with y in the place of x.
        one = plus(power(X, 60), times(Z, X))
        self.assertEqual(self.check(one, minus(X, Y), 0), plus(power(Y, 60), times(Z, Y)))
        self.assertEqual(
            self.check(minus(power(X, 60), Y), minus(power(X, 59), Z), 0), minus(power(Z, 60), power(Y, 59)),
        )

    def test_great_ones(self):
        great = power(plus(plus(X, Y), ONE), 24)
        self.assertEqual(len(great.terms), 325)
        self.assertEqual(self.check(great, minus(X, Z), 0), power(plus(plus(Z, Y), ONE), 24))
        tall = power(power(X, 60), 2)
        self.assertEqual(self.check(minus(tall, Y), minus(power(X, 2), Z), 0), power(minus(power(Z, 60), Y), 2))
        heavy = power(number_poly(10 ** 29), 20)
        self.assertEqual(self.check(minus(times(heavy, X), Y), minus(X, heavy), 0), minus(Y, times(heavy, heavy)))

    def test_what_was_returned_is_eliminated_further(self):
        first = self.check(plus(plus(power(X, 2), power(Y, 2)), minus(power(Z, 2), ONE)), minus(X, times(Y, Z)), 0)
        second = self.check(plus(power(X, 3), minus(Y, Z)), minus(X, times(Y, Z)), 0)
        third = self.check(first, second, 1)
        self.assertEqual(top(third), 2)


class WrongTest(unittest.TestCase):
    def raises(self, error, call):
        with self.assertRaises(error) as caught:
            call()
        self.assertIs(type(caught.exception), error)
        self.assertEqual(vars(caught.exception), {})

    def test_no_unknown(self):
        for call in (divided, eliminated):
            for thing in odd_things() + [4, -1, (0,), "x"]:
                self.raises(NoUnknown, lambda: call(CIRCLE, LINE, thing))

    def test_no_unknown_comes_ahead_of_no_divisor(self):
        for call in (divided, eliminated):
            for thing in odd_things() + [4, -1]:
                self.raises(NoUnknown, lambda: call(CIRCLE, ONE, thing))
                self.raises(NoUnknown, lambda: call(NOUGHT, NOUGHT, thing))

    def test_divided_by_what_has_no_such_unknown(self):
        for other in (NOUGHT, ONE, number_poly(-3), Y, plus(Y, W), power(power(Y, 60), 2)):
            for one in (CIRCLE, NOUGHT, ONE, Y):
                self.raises(NoDivisor, lambda: divided(one, other, 0))
        self.raises(NoDivisor, lambda: divided(X, X, 1))

    def test_eliminated_from_what_has_no_such_unknown(self):
        for poly in (NOUGHT, ONE, number_poly(-3), Y, plus(Y, W)):
            self.raises(NoDivisor, lambda: eliminated(CIRCLE, poly, 0))
            self.raises(NoDivisor, lambda: eliminated(poly, CIRCLE, 0))
            self.raises(NoDivisor, lambda: eliminated(poly, poly, 0))

    def test_the_divided_one_need_not_have_it(self):
        self.assertEqual(divided(Y, X, 0), (0, NOUGHT, Y))


class UnchangedTest(unittest.TestCase):
    def test_what_is_passed_stays(self):
        one, other = Poly(CIRCLE.terms), Poly(LINE.terms)
        first = (divided(one, other, 0), eliminated(one, other, 0), eliminated(other, one, 0))
        self.assertEqual(one.terms, (((0, 0, 0, 0), -5), ((0, 2, 0, 0), 1), ((2, 0, 0, 0), 1)))
        self.assertEqual(other.terms, (((0, 1, 0, 0), -2), ((1, 0, 0, 0), 1)))
        self.assertEqual(first, (divided(one, other, 0), eliminated(one, other, 0), eliminated(other, one, 0)))

    def test_an_error_changes_nothing(self):
        one = Poly(CIRCLE.terms)
        with self.assertRaises(NoDivisor):
            divided(one, ONE, 0)
        self.assertEqual(one, CIRCLE)


if __name__ == "__main__":
    unittest.main()
