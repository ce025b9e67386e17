"""Lines of the values of polynomials at the roots of chains, also of such whose leading counts are no integers."""

import unittest

from boxedroots.boxings import boxes, boxing_of
from boxedroots.common import number_in
from boxedroots.lines import poly_of_line
from boxedroots.numbers import number_of, product_of, quotient_of, root_of
from boxedroots.polys import lead, minus, number_poly, plus, times, top
from boxedroots.values import normal_chain, value_at, values_line
from boxedroots.zeros import sign_at_root
from helping import NOUGHT, ONE, X, Y, Z, linear, total
from test_making import XX, XY, YY, ZZ

TWO = linear(-2, 0, 1)
# y is 1 by x, and z is y by x + y + 1.
CHAIN = (TWO, minus(XY, ONE), minus(times(total([X, Y, ONE]), Z), Y))


class ValuesTest(unittest.TestCase):
    def test_leading_counts_that_are_no_integers(self):
        for chain, poly, line in (
            (CHAIN[:2], Y, linear(-1, 0, 2)), (CHAIN[:2], XY, linear(-1, 1)), (CHAIN[:2], plus(X, Y), linear(-9, 0, 2)),
            (CHAIN, times(Z, total([X, Y, ONE])), linear(-1, 0, 2)), (CHAIN, NOUGHT, X), (CHAIN, number_poly(7), linear(-7, 1)),
            ((TWO, minus(times(X, YY), ONE)), Y, linear(-1, 0, 0, 0, 2)), ((TWO, minus(YY, X), minus(times(Y, ZZ), ONE)), times(Y, ZZ), linear(-1, 1)),
        ):
            found = poly_of_line(values_line(chain, poly))
            self.assertIn(found, (line, times(number_poly(-1), line)))
        for poly in normal_chain(CHAIN):
            self.assertIsNotNone(number_in(lead(poly, top(poly))))

    def test_values_and_signs_there(self):
        low, high = boxes(CHAIN, boxing_of(CHAIN))
        root = root_of(number_of((2, 1)), 2)
        self.assertEqual(value_at(CHAIN, high, Y), quotient_of(root, number_of((2, 1))))
        self.assertEqual(value_at(CHAIN, low, Y), quotient_of(root, number_of((-2, 1))))
        self.assertEqual(product_of(value_at(CHAIN, high, Z), value_at(CHAIN, high, total([X, Y, ONE]))), value_at(CHAIN, high, Y))
        for box, sign in ((low, 1), (high, -1)):
            self.assertEqual(sign_at_root(CHAIN, box, minus(times(number_poly(2), YY), ONE)), 0)
            self.assertEqual(sign_at_root(CHAIN, box, minus(times(total([X, Y, ONE]), Z), Y)), 0)
            self.assertEqual(sign_at_root(CHAIN, box, minus(times(XX, Y), X)), 0)
            self.assertEqual(sign_at_root(CHAIN, box, minus(times(XX, Z), Y)), sign)


if __name__ == "__main__":
    unittest.main()
