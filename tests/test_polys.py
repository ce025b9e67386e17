"""1.1 and 1.2: polynomials."""

import unittest
from fractions import Fraction
from itertools import product

from boxedroots.errors import BadPoly, NoInteger, NoNumber, NoPoint, NoUnknown
from boxedroots.polys import (
    Poly, degree, exchanged, lead, minus, number_poly, plus, power, slope, times, top, unknown_poly, worth,
)
from helping import (
    NOUGHT, ONE, Dice, W, X, Y, Z, dict_of, dict_product, is_right, linear, made, nested, odd_things, pair,
    stands_at, total,
)

SOME = made({(0, 0, 0, 0): 7, (0, 1, 0, 2): -3, (1, 0, 0, 0): 2, (2, 1, 0, 0): 5, (2, 3, 0, 0): -1})


class PolyTest(unittest.TestCase):
    def wrong(self, thing, index):
        with self.assertRaises(BadPoly) as caught:
            Poly(thing)
        self.assertIs(type(caught.exception), BadPoly)
        self.assertEqual(caught.exception.index, index)

    def test_terms_are_kept(self):
        terms = (((0, 0, 0, 0), -5), ((0, 2, 0, 60), 10 ** 29), ((2, 0, 0, 0), 1))
        self.assertEqual(Poly(terms).terms, terms)
        self.assertIs(type(Poly(terms).terms), tuple)

    def test_no_terms(self):
        self.assertEqual(Poly(()).terms, ())
        self.assertEqual(number_poly(0), Poly(()))

    def test_just_so_many_terms(self):
        terms = tuple([((first, second, 0, 0), 1) for first in range(10) for second in range(31)])
        self.assertEqual(Poly(terms[:300]).terms, terms[:300])
        self.wrong(terms[:301], -1)
        self.wrong((None,) * 301, -1)
        self.wrong((None,) * 300, 0)

    def test_powers(self):
        self.assertEqual(Poly((((60, 60, 60, 60), 1),)).terms, (((60, 60, 60, 60), 1),))
        for powers in product((0, 60), repeat=4):
            self.assertEqual(Poly(((powers, 1),)).terms, ((powers, 1),))
        for place in range(4):
            for wrong in (61, -1, 10 ** 29, True, False, None, "1", (1,), X, 1.0):
                powers = tuple([wrong if k == place else 0 for k in range(4)])
                self.wrong((((0, 0, 0, 0), 1), (powers, 1)), 1)
        for powers in ((), (0, 0, 0), (0, 0, 0, 0, 0), [0, 0, 0, 0], 0, None, X, "0000", b"0000", range(4)):
            self.wrong(((powers, 1),), 0)

    def test_counts(self):
        for count in (1, -1, 10 ** 30 - 1, 1 - 10 ** 30):
            self.assertEqual(Poly((((0, 0, 0, 1), count),)).terms, (((0, 0, 0, 1), count),))
        for count in (0, True, False, None, "1", (1,), [1], ONE, b"1"):
            self.wrong((((0, 0, 0, 0), 1), ((0, 0, 0, 1), count)), 1)

    def test_terms_are_pairs(self):
        for term in ((), ((0, 0, 0, 0),), ((0, 0, 0, 0), 1, 1), [(0, 0, 0, 0), 1], {(0, 0, 0, 0): 1}, None, ONE, 0):
            self.wrong((term,), 0)
            self.wrong((((0, 0, 0, 0), 1), ((0, 0, 0, 1), 1), term), 2)

    def test_terms_ascend(self):
        low, high = ((0, 5, 5, 5), 1), ((1, 0, 0, 0), 1)
        self.assertEqual(Poly((low, high)).terms, (low, high))
        self.wrong((high, low), 1)
        self.wrong((low, low), 1)
        self.wrong((low, ((0, 5, 5, 5), 2)), 1)
        self.wrong((low, high, high), 2)
        self.wrong((low, high, low), 2)
        for at in range(4):
            above = tuple([1 if k == at else 0 for k in range(4)])
            below = tuple([60 if k > at else 0 for k in range(4)])
            self.assertEqual(len(Poly(((below, 1), (above, 1))).terms), 2)
            self.wrong(((above, 1), (below, 1)), 1)

    def test_the_first_wrong_one_is_told(self):
        good, twice = ((0, 0, 0, 0), 1), ((0, 0, 0, 0), 2)
        self.wrong((good, twice, None), 1)
        self.wrong((good, None, twice), 1)
        self.wrong((None, good, good), 0)
        self.wrong((good, ((0, 0, 0, 1), 1), ((0, 0, 0, 1), 0), good), 2)

    def test_no_tuples(self):
        self.wrong([((0, 0, 0, 0), 1)], -1)
        self.wrong([], -1)
        self.wrong({}, -1)
        self.wrong(ONE, -1)

    def test_odd_things(self):
        for thing in odd_things():
            self.wrong(thing, 0 if isinstance(thing, tuple) and len(thing) <= 300 else -1)
            self.wrong((thing,), 0)
            self.wrong((((0, 0, 0, 0), 1), thing), 1)
            self.wrong(((thing, 1),), 0)
            self.wrong((((0, 0, 0, thing if thing != -1 else None), 1),), 0)
            if type(thing) is not int:
                self.wrong((((0, 0, 0, 0), thing),), 0)


class EqualTest(unittest.TestCase):
    def test_equal_if_the_terms_are(self):
        self.assertTrue(Poly((((1, 0, 0, 0), 1),)) == X)
        self.assertFalse(Poly((((1, 0, 0, 0), 1),)) != X)
        self.assertFalse(X == Y)
        self.assertTrue(X != Y)
        self.assertFalse(X == times(X, number_poly(2)))
        self.assertFalse(X == plus(X, ONE))
        self.assertTrue(minus(plus(X, Y), Y) == X)

    def test_to_nothing_else(self):
        for thing in odd_things() + [X.terms, list(X.terms), (), 0, "x", {1}, 0.0]:
            if not isinstance(thing, Poly):
                for poly in (X, NOUGHT, ONE):
                    self.assertIs(poly == thing, False)
                    self.assertIs(thing == poly, False)
                    self.assertIs(poly != thing, True)

    def test_returned_ones_too(self):
        great = power(plus(plus(X, Y), ONE), 40)
        self.assertTrue(great == power(plus(plus(Y, ONE), X), 40))
        self.assertFalse(great == plus(great, ONE))


class MakingTest(unittest.TestCase):
    def test_number_poly(self):
        self.assertEqual(number_poly(-7).terms, (((0, 0, 0, 0), -7),))
        self.assertEqual(number_poly(0).terms, ())
        self.assertEqual(number_poly(10 ** 30 - 1).terms, (((0, 0, 0, 0), 10 ** 30 - 1),))

    def test_number_poly_of_no_integer(self):
        for thing in odd_things() + [(1, 1), "7"]:
            if isinstance(thing, bool) or not isinstance(thing, int):
                with self.assertRaises(NoInteger) as caught:
                    number_poly(thing)
                self.assertIs(type(caught.exception), NoInteger)

    def test_unknown_poly(self):
        for k in range(4):
            powers = tuple([1 if place == k else 0 for place in range(4)])
            self.assertEqual(unknown_poly(k).terms, ((powers, 1),))

    def test_unknown_poly_of_no_unknown(self):
        for thing in odd_things() + [4, -1, 10 ** 29, (0,), "x"]:
            with self.assertRaises(NoUnknown) as caught:
                unknown_poly(thing)
            self.assertIs(type(caught.exception), NoUnknown)


class ReckoningTest(unittest.TestCase):
    def test_the_example(self):
        self.assertEqual(times(minus(X, Y), plus(X, Y)).terms, (((0, 2, 0, 0), -1), ((2, 0, 0, 0), 1)))

    def test_small_ones(self):
        self.assertEqual(plus(X, X).terms, (((1, 0, 0, 0), 2),))
        self.assertEqual(plus(Y, X).terms, (((0, 1, 0, 0), 1), ((1, 0, 0, 0), 1)))
        self.assertEqual(minus(X, X).terms, ())
        self.assertEqual(minus(NOUGHT, X).terms, (((1, 0, 0, 0), -1),))
        self.assertEqual(times(X, NOUGHT), NOUGHT)
        self.assertEqual(times(NOUGHT, NOUGHT), NOUGHT)
        self.assertEqual(times(ONE, SOME), SOME)
        self.assertEqual(times(SOME, number_poly(-2)).terms[0], ((0, 0, 0, 0), -14))
        self.assertEqual(times(linear(1, 1), linear(-1, 1)), linear(-1, 0, 1))

    def test_by_the_terms(self):
        dice = Dice(1)
        for _ in range(200):
            one, other = dice.poly(terms=12), dice.poly(terms=12)
            added, left = dict_of(one), dict_of(one)
            for powers, count in other.terms:
                added[powers] = added.get(powers, 0) + count
                left[powers] = left.get(powers, 0) - count
            self.assertEqual(plus(one, other), made(added))
            self.assertEqual(minus(one, other), made(left))
            self.assertEqual(dict_of(times(one, other)), dict_product(one, other))
            for found in (plus(one, other), minus(one, other), times(one, other)):
                self.assertTrue(is_right(found))

    def test_unlike_powers_are_kept_apart(self):
        for k in range(4):
            for high in (1, 2, 3, 7, 8, 31, 32, 59, 60):
                one = plus(power(unknown_poly(k), high), ONE)
                other = minus(power(unknown_poly(k), high), plus(unknown_poly((k + 1) % 4), ONE))
                self.assertEqual(dict_of(times(one, other)), dict_product(one, other))

    def test_power(self):
        dice = Dice(2)
        for _ in range(40):
            poly = dice.poly(terms=4, most=2)
            found = ONE
            for many in range(6):
                self.assertEqual(power(poly, many), found)
                found = times(found, poly)

    def test_power_of_nought_and_to_nought(self):
        self.assertEqual(power(NOUGHT, 0), ONE)
        self.assertEqual(power(NOUGHT, 1), NOUGHT)
        self.assertEqual(power(NOUGHT, 60), NOUGHT)
        self.assertEqual(power(SOME, 0), ONE)
        self.assertEqual(power(SOME, 1), SOME)

    def test_power_to_sixty(self):
        self.assertEqual(power(times(X, number_poly(-3)), 60).terms, (((60, 0, 0, 0), 3 ** 60),))
        self.assertEqual(power(times(X, number_poly(-3)), 59).terms, (((59, 0, 0, 0), -3 ** 59),))
        found = power(plus(X, Y), 60)
        self.assertEqual(len(found.terms), 61)
        count = 1
        for high, term in enumerate(found.terms):
            self.assertEqual(term, ((high, 60 - high, 0, 0), count))
            count = count * (60 - high) // (high + 1)

    def test_power_to_no_number(self):
        for poly in (X, NOUGHT, SOME):
            for thing in odd_things() + [61, -1, 10 ** 29, (1,), "2"]:
                with self.assertRaises(NoNumber) as caught:
                    power(poly, thing)
                self.assertIs(type(caught.exception), NoNumber)


class TellingTest(unittest.TestCase):
    def test_top(self):
        self.assertIsNone(top(NOUGHT))
        self.assertIsNone(top(number_poly(-5)))
        for k in range(4):
            self.assertEqual(top(unknown_poly(k)), k)
        self.assertEqual(top(plus(times(X, Z), Y)), 2)
        self.assertEqual(top(plus(power(X, 60), W)), 3)
        self.assertEqual(top(minus(plus(X, W), W)), 0)
        self.assertIs(type(top(X)), int)

    def test_degree(self):
        self.assertEqual([degree(SOME, k) for k in range(4)], [2, 3, 0, 2])
        self.assertEqual([degree(NOUGHT, k) for k in range(4)], [0, 0, 0, 0])
        self.assertEqual([degree(ONE, k) for k in range(4)], [0, 0, 0, 0])

    def test_lead(self):
        self.assertEqual(lead(SOME, 0), minus(times(number_poly(5), Y), power(Y, 3)))
        self.assertEqual(lead(SOME, 1), minus(NOUGHT, power(X, 2)))
        self.assertEqual(lead(SOME, 2), SOME)
        self.assertEqual(lead(SOME, 3), times(number_poly(-3), Y))
        self.assertEqual(lead(NOUGHT, 1), NOUGHT)
        self.assertEqual(lead(ONE, 3), ONE)

    def test_slope(self):
        self.assertEqual(slope(SOME, 0), made({(0, 0, 0, 0): 2, (1, 1, 0, 0): 10, (1, 3, 0, 0): -2}))
        self.assertEqual(slope(SOME, 1), made({(0, 0, 0, 2): -3, (2, 0, 0, 0): 5, (2, 2, 0, 0): -3}))
        self.assertEqual(slope(SOME, 2), NOUGHT)
        self.assertEqual(slope(SOME, 3), made({(0, 1, 0, 1): -6}))
        self.assertEqual(slope(NOUGHT, 0), NOUGHT)

    def test_exchanged(self):
        self.assertEqual(exchanged(SOME, 0, 3), made({
            (0, 0, 0, 0): 7, (2, 1, 0, 0): -3, (0, 0, 0, 1): 2, (0, 1, 0, 2): 5, (0, 3, 0, 2): -1,
        }))
        for k, l in product(range(4), repeat=2):
            self.assertEqual(exchanged(unknown_poly(k), k, l), unknown_poly(l))
            self.assertEqual(exchanged(unknown_poly(l), k, l), unknown_poly(k))
        self.assertEqual(exchanged(SOME, 1, 1), SOME)

    def test_at_many(self):
        dice = Dice(3)
        for _ in range(100):
            poly, k, l = dice.poly(terms=10), dice.throw(0, 3), dice.throw(0, 3)
            rows = [times(stands_at(poly, k, high), power(unknown_poly(k), high)) for high in range(4)]
            self.assertEqual(total(rows), poly)
            high = max([at for at in range(4) if rows[at].terms], default=0)
            self.assertEqual(degree(poly, k), high)
            self.assertEqual(lead(poly, k), stands_at(poly, k, high))
            self.assertEqual(slope(poly, k), total([
                times(number_poly(at), times(stands_at(poly, k, at), power(unknown_poly(k), at - 1)))
                for at in range(1, 4)
            ]))
            self.assertEqual(exchanged(exchanged(poly, k, l), l, k), poly)
            self.assertEqual(degree(exchanged(poly, k, l), l), degree(poly, k))
            for found in (lead(poly, k), slope(poly, k), exchanged(poly, k, l)):
                self.assertTrue(is_right(found))

    def test_no_unknown(self):
        for poly in (SOME, NOUGHT):
            for thing in odd_things() + [4, -1, (0,), "x"]:
                for call in (
                    lambda: degree(poly, thing), lambda: lead(poly, thing), lambda: slope(poly, thing),
                    lambda: exchanged(poly, thing, 0), lambda: exchanged(poly, 0, thing),
                    lambda: exchanged(poly, thing, thing),
                ):
                    with self.assertRaises(NoUnknown) as caught:
                        call()
                    self.assertIs(type(caught.exception), NoUnknown)


class WorthTest(unittest.TestCase):
    def test_some(self):
        self.assertEqual(worth(SOME, ((0, 1), (0, 1), (0, 1), (0, 1))), (7, 1))
        self.assertEqual(worth(SOME, ((1, 2), (0, 1), (5, 3), (0, 1))), (8, 1))
        self.assertEqual(worth(SOME, ((1, 2), (-2, 3), (0, 1), (3, 1))), pair(
            7 + 3 * Fraction(2, 3) * 9 + 1 - Fraction(5, 4) * Fraction(2, 3) + Fraction(1, 4) * Fraction(8, 27)
        ))
        self.assertEqual(worth(NOUGHT, ((1, 2), (1, 3), (1, 5), (1, 7))), (0, 1))
        self.assertEqual(worth(number_poly(-4), ((1, 2), (1, 3), (1, 5), (1, 7))), (-4, 1))
        self.assertEqual(worth(minus(X, Y), ((1, 2), (1, 2), (0, 1), (0, 1))), (0, 1))
        self.assertEqual(worth(W, ((1, 2), (1, 3), (1, 5), (-1, 7))), (-1, 7))

    def test_against_fractions(self):
        dice = Dice(4)
        for _ in range(200):
            poly, point = dice.poly(terms=8), tuple([dice.fraction() for _ in range(4)])
            found = Fraction(0)
            for powers, count in poly.terms:
                part = Fraction(count)
                for (over, under), high in zip(point, powers):
                    part *= Fraction(over, under) ** high
                found += part
            self.assertEqual(worth(poly, point), pair(found))

    def test_no_point(self):
        good = (1, 2)
        for thing in odd_things() + [
            (), (good,), (good,) * 3, (good,) * 5, [good] * 4, (1, 2, 3, 4), (good, good, good, 1),
            (good, good, good, None), (good, good, good, [1, 2]), ([good, good], good, good, good),
        ]:
            for poly in (SOME, NOUGHT):
                with self.assertRaises(NoPoint) as caught:
                    worth(poly, thing)
                self.assertIs(type(caught.exception), NoPoint)

    def test_no_fractions(self):
        good = (1, 2)
        for wrong in [
            (2, 4), (0, 2), (1, 0), (0, 0), (1, -2), (-1, -1), (0, -1), (True, 1), (1, True), (False, 1), (1,),
            (1, 2, 3), [1, 2], ("1", 2), (1, None), ((1, 2), 3), 1, X, "12",
        ] + odd_things():
            if wrong == (0, 1):
                continue
            for place in range(4):
                with self.assertRaises(NoPoint):
                    worth(SOME, tuple([wrong if k == place else good for k in range(4)]))

    def test_right_fractions(self):
        for right in ((0, 1), (1, 1), (-1, 1), (-3, 2), (10 ** 29, 3), (1, 10 ** 29)):
            self.assertEqual(worth(X, (right, (0, 1), (0, 1), (0, 1))), right)


class GreatOnesTest(unittest.TestCase):
    """What was returned may be passed on, whatever its size."""

    def test_many_terms(self):
        great = power(plus(plus(X, Y), ONE), 40)
        self.assertEqual(len(great.terms), 861)
        self.assertTrue(is_right(great))
        self.assertEqual(minus(plus(great, X), great), X)
        self.assertEqual(times(great, plus(plus(X, Y), ONE)), power(plus(plus(X, Y), ONE), 41))
        self.assertEqual(lead(great, 0), ONE)
        self.assertEqual(slope(great, 1), times(number_poly(40), power(plus(plus(X, Y), ONE), 39)))
        self.assertEqual(exchanged(great, 0, 1), great)
        self.assertEqual(top(exchanged(great, 1, 3)), 3)
        self.assertEqual(worth(great, ((1, 2), (1, 2), (0, 1), (0, 1))), (2 ** 40, 1))

    def test_great_powers(self):
        great = power(power(X, 60), 60)
        self.assertEqual(great.terms, (((3600, 0, 0, 0), 1),))
        self.assertEqual(times(great, plus(great, Y)).terms, (((3600, 1, 0, 0), 1), ((7200, 0, 0, 0), 1)))
        self.assertEqual(degree(power(great, 60), 0), 216000)
        self.assertEqual(slope(great, 0).terms, (((3599, 0, 0, 0), 3600),))
        self.assertEqual(lead(plus(times(great, Y), X), 0), Y)
        self.assertEqual(worth(great, ((2, 3), (0, 1), (0, 1), (0, 1))), (2 ** 3600, 3 ** 3600))
        self.assertEqual(worth(power(power(great, 60), 60), ((-1, 1), (0, 1), (0, 1), (0, 1))), (1, 1))
        self.assertEqual(exchanged(great, 0, 3).terms, (((0, 0, 0, 3600), 1),))

    def test_great_counts(self):
        great = power(number_poly(10 ** 29), 60)
        self.assertEqual(great.terms, (((0, 0, 0, 0), 10 ** 1740),))
        self.assertEqual(number_poly(great.terms[0][1]), great)
        self.assertEqual(worth(times(great, X), ((1, 10), (0, 1), (0, 1), (0, 1))), (10 ** 1739, 1))
        self.assertEqual(plus(great, minus(X, great)), X)

    def test_great_fractions(self):
        tall = worth(power(X, 60), ((10 ** 29 + 1, 10 ** 29), (0, 1), (0, 1), (0, 1)))
        self.assertEqual(tall, pair(Fraction(10 ** 29 + 1, 10 ** 29) ** 60))
        self.assertEqual(worth(power(Y, 2), ((0, 1), tall, (0, 1), (0, 1))), (tall[0] ** 2, tall[1] ** 2))

    def test_terms_of_great_ones_are_still_judged(self):
        many = power(plus(plus(X, Y), ONE), 40)
        with self.assertRaises(BadPoly) as caught:
            Poly(many.terms)
        self.assertEqual(caught.exception.index, -1)
        with self.assertRaises(BadPoly) as caught:
            Poly(plus(ONE, power(power(X, 60), 2)).terms)
        self.assertEqual(caught.exception.index, 1)


class UnchangedTest(unittest.TestCase):
    def test_what_is_passed_stays(self):
        one, other = Poly(SOME.terms), plus(SOME, X)
        before = (one.terms, other.terms)
        point = ((1, 2), (3, 1), (0, 1), (-5, 7))
        for _ in range(2):
            plus(one, other), minus(one, other), times(one, other), power(one, 3)
            lead(one, 0), slope(one, 0), exchanged(one, 0, 1), worth(one, point), top(one), degree(one, 1)
        self.assertEqual((one.terms, other.terms), before)
        self.assertEqual(point, ((1, 2), (3, 1), (0, 1), (-5, 7)))

    def test_a_list_inside_is_not_taken(self):
        counts = [(0, 0, 0, 0), 1]
        with self.assertRaises(BadPoly):
            Poly((counts,))
        self.assertEqual(counts, [(0, 0, 0, 0), 1])

    def test_equal_calls_give_equal_answers(self):
        self.assertEqual(times(SOME, X), times(SOME, X))
        self.assertEqual(power(SOME, 5), power(SOME, 5))

    def test_deeply_nested_things(self):
        for deep in (1, 10, 40):
            for pack in (lambda thing: (thing,), lambda thing: [thing], lambda thing: {0: thing}):
                thing = nested(X, deep, pack)
                with self.assertRaises(BadPoly):
                    Poly(thing)
                with self.assertRaises(NoPoint):
                    worth(X, thing)
                self.assertFalse(X == thing)


if __name__ == "__main__":
    unittest.main()
