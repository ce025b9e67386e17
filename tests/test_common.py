"""What covers are made with: divisors in common, quotients, orders of products, remainders by chains."""

import unittest
from itertools import product

from boxedroots.common import common, content, content_beside, number_in, primitive, primitive_beside, quotient
from boxedroots.factors import easy_factor
from boxedroots.orders import BY_DEGREE, BY_TOPS, divides, bounded_by, key_of, least_multiple, powers_of
from boxedroots.papers import chain_remainder, heads_of
from boxedroots.polys import degree, number_poly, plus, power, times, top
from boxedroots.working import never_nought, without_barred
from helping import NOUGHT, ONE, X, Y, Z, Dice, linear
from judge import products_together, product_with, sum_of


class CommonTest(unittest.TestCase):
    def test_contents(self):
        self.assertEqual([content(poly) for poly in (NOUGHT, ONE, linear(-4, 6), linear(3, -9, 7))], [0, 1, 2, 1])
        self.assertEqual(primitive(linear(-4, 0, -6)), linear(2, 0, 3))
        self.assertEqual(primitive(NOUGHT), NOUGHT)
        self.assertEqual([number_in(poly) for poly in (NOUGHT, number_poly(-7), X, linear(1, 1))], [0, -7, None, None])

    def test_quotients(self):
        dice = Dice(31)
        for _ in range(200):
            one, other = dice.poly((0, 1, 2), 3, 4), dice.poly((0, 1, 2), 2, 3)
            if other.terms:
                self.assertEqual(quotient(times(one, other), other), one)
                if number_in(other) is None:
                    self.assertIsNone(quotient(plus(times(one, other), ONE), other))
        for one, other in (
            (X, Y), (X, number_poly(2)), (linear(1, 1), X), (linear(0, 3), linear(0, 2)), (ONE, X), (linear(1, 0, 1), linear(1, 1)),
            (plus(power(X, 5), Y), plus(X, power(Y, 9))), (linear(0, 0, 3), linear(1, 2)),
        ):
            self.assertIsNone(quotient(one, other))
        self.assertEqual(quotient(NOUGHT, linear(1, 1)), NOUGHT)
        self.assertEqual(quotient(linear(4, 6), number_poly(-2)), linear(-2, -3))

    def test_greatest_divisors(self):
        dice = Dice(32)
        for unknowns in ((0,), (0, 1), (0, 1, 2), (1, 3)):
            for _ in range(60):
                one, other, shared = [dice.poly(unknowns, 2, 4) for _ in range(3)]
                if not one.terms or not other.terms or not shared.terms:
                    continue
                found = common(times(one, shared), times(other, shared))
                self.assertIsNotNone(quotient(found, shared))
                left = [quotient(times(part, shared), found) for part in (one, other)]
                self.assertNotIn(None, left)
                self.assertEqual(common(left[0], left[1]), ONE)
        self.assertEqual(common(linear(0, 6), linear(0, 0, -4)), linear(0, 2))
        self.assertEqual(common(NOUGHT, linear(0, -4)), linear(0, 4))
        self.assertEqual(common(NOUGHT, NOUGHT), NOUGHT)
        self.assertEqual(common(power(linear(1, 1), 40), times(power(linear(1, 1), 7), Y)), power(linear(1, 1), 7))

    def test_contents_beside(self):
        poly = times(times(linear(2, 4), plus(X, ONE)), plus(power(Y, 2), times(X, Z)))
        self.assertEqual(content_beside(poly, [1, 2]), times(linear(2, 4), plus(X, ONE)))
        self.assertEqual(primitive_beside(poly, [1, 2]), plus(power(Y, 2), times(X, Z)))
        self.assertEqual(primitive_beside(NOUGHT, [0]), NOUGHT)

    def test_easy_factors(self):
        for poly in (X, linear(1, 0, 1), ONE, plus(times(X, Y), ONE), plus(power(X, 2), power(Y, 3))):
            self.assertIsNone(easy_factor(poly))
        for poly in (times(X, Y), power(X, 2), power(plus(X, Y), 3), times(linear(1, 1), plus(Y, Z)), times(X, linear(1, 1))):
            found = easy_factor(poly)
            self.assertIsNotNone(quotient(poly, found))
            self.assertIsNone(number_in(found))
            self.assertIsNone(number_in(quotient(poly, found)))

    def test_orders(self):
        rows = [row + (0,) for row in product(range(4), repeat=3)]
        for order in (BY_TOPS, BY_DEGREE):
            keys = {row: key_of(order, row) for row in rows}
            ranks = sorted(rows, key=lambda row: row[::-1] if order == BY_TOPS else (sum(row), -row[0], -row[1]))
            self.assertEqual(sorted(rows, key=keys.get), ranks)
            dice = Dice(33)
            for _ in range(300):
                one, other = dice.choose(rows), dice.choose(rows)
                self.assertEqual(powers_of(order, keys[one]), one)
                self.assertEqual(keys[one] + keys[other], key_of(order, [a + b for a, b in zip(one, other)]))
                self.assertIs(divides(keys[one], keys[other]), all(a <= b for a, b in zip(one, other)))
                most = tuple([max(a, b) for a, b in zip(one, other)])
                self.assertEqual(least_multiple(order, keys[one], keys[other]), keys[most])
            leads = [keys[row] for row in ((3, 0, 0, 0), (1, 1, 0, 0), (0, 2, 0, 0))]
            self.assertIs(bounded_by(2, order, leads), True)
            self.assertIs(bounded_by(3, order, leads), False)

    def test_remainders_by_chains(self):
        dice = Dice(34)
        for chain in (
            (linear(-2, 0, 1), plus(times(X, power(Y, 2)), ONE)), (linear(3, 5), plus(times(number_poly(3), power(Y, 2)), X)),
            (plus(times(X, Y), ONE), plus(times(Y, Z), X)), (),
        ):
            for _ in range(20):
                poly = dice.poly((0, 1, 2), 3, 4)
                many, powers, fronts, rest = chain_remainder(poly, chain)
                for other in chain:
                    self.assertLess(degree(rest, top(other)), degree(other, top(other)))
                whole = product_with(heads_of(chain) + [number_poly(many)], list(powers) + [1], poly)
                self.assertEqual(whole, sum_of(dict(rest.terms), products_together(fronts, chain)))

    def test_what_barred_ones_bar(self):
        barred = [times(number_poly(2), times(X, Y)), plus(X, ONE), number_poly(3)]
        for poly, good in (
            (X, True), (times(X, power(Y, 3)), True), (number_poly(-5), True), (NOUGHT, False), (linear(0, 3, 3), True),
            (Z, False), (times(X, Z), False), (plus(X, Y), False), (barred[0], True), (linear(0, 0, 0, 7), True),
        ):
            self.assertIs(never_nought(poly, barred), good)
            if poly.terms:
                powers, rest, factor = without_barred(poly, barred)
                whole = product_with(barred, [powers.get(at, 0) for at in range(3)], rest)
                self.assertEqual(whole, product_with([factor], [1], poly))


if __name__ == "__main__":
    unittest.main()
