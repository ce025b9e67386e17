"""0.2 and 6.2: what an integer, a number, a bound, an unknown, a fraction and a point are."""

import unittest

from boxedroots.judging import is_bound, is_fraction, is_integer, is_number_to, is_point, is_unknown
from helping import X, odd_things


class JudgingTest(unittest.TestCase):
    def test_integers(self):
        for thing in (0, 1, -1, 10 ** 30, -10 ** 300):
            self.assertIs(is_integer(thing), True)
        for thing in (True, False, None, "1", (1,), [1], b"1", X):
            self.assertIs(is_integer(thing), False)

    def test_numbers(self):
        for thing in (0, 1, 60):
            self.assertIs(is_number_to(60, thing), True)
        for thing in (61, -1, True, False, None, "1", (1,), X):
            self.assertIs(is_number_to(60, thing), False)

    def test_bounds(self):
        for thing in (1, 2, 10 ** 30):
            self.assertIs(is_bound(thing), True)
        for thing in (0, -1, -10 ** 30, True, False, None, "1", (1,), [1], X):
            self.assertIs(is_bound(thing), False)

    def test_unknowns(self):
        for thing in (0, 1, 2, 3):
            self.assertIs(is_unknown(thing), True)
        for thing in (4, -1, True, False, None, "x", X):
            self.assertIs(is_unknown(thing), False)

    def test_fractions(self):
        for thing in ((0, 1), (1, 1), (-1, 1), (2, 3), (-4, 9), (10 ** 300, 3)):
            self.assertIs(is_fraction(thing), True)
        for thing in (
            (0, 2), (2, 4), (1, 0), (0, 0), (1, -1), (-2, -3), (True, 1), (1, True), (1,), (1, 2, 3), [1, 2], 1, X,
            (1, "2"), (None, 1), ((1, 1), 1), "12", b"12", {1: 2, 3: 4},
        ):
            self.assertIs(is_fraction(thing), False)

    def test_points(self):
        good = (1, 2)
        self.assertIs(is_point(0, ()), True)
        self.assertIs(is_point(2, (good, good)), True)
        for thing in ((good,), (good, good, good), [good, good], (good, (2, 4)), (good, [1, 2]), good):
            self.assertIs(is_point(2, thing), False)

    def test_odd_things(self):
        for thing in odd_things():
            self.assertIs(is_integer(thing), type(thing) is int)
            self.assertIs(is_number_to(60, thing), False)
            self.assertIs(is_bound(thing), type(thing) is int and thing > 0)
            self.assertIs(is_unknown(thing), False)
            self.assertIs(is_fraction(thing), thing == (0, 1))
            self.assertIs(is_point(4, thing), False)


if __name__ == "__main__":
    unittest.main()
