"""Factors of lines by a prime, and the least polynomial of a root (what 8.1 builds on)."""

import unittest

from boxedroots.factoring import PRIMES, fewest_factors, least_line, lifted, quotient_line
from boxedroots.isolating import isolated, without_doubles
from boxedroots.lines import line_of, poly_of_line, sign_at
from boxedroots.modular import (
    cofactors_by, common_by, division_by, factors_by, fixed_lines, inverse_by, line_modulo, monic_by, product_by, slope_by,
)
from boxedroots.numbers import Number, number_of, poly_of, real_roots, root_of, sum_of
from boxedroots.polys import minus, number_poly, power, times
from helping import ONE, X, Dice, linear
from test_making import dense

# None of these can be parted.
WHOLE = (
    linear(-2, 0, 1), linear(-3, 0, 1), linear(-2, 0, 0, 1), linear(-1, -1, 1), linear(1, 0, -10, 0, 1), linear(-7, 3),
    linear(-3, 1, 0, 5), linear(-10 ** 29 - 1, 0, 0, 2), linear(-1, -1, 0, 0, 0, 1), linear(576, 0, -960, 0, 352, 0, -40, 0, 1),
    linear(-2, 0, 0, 0, 0, 0, 0, 1), linear(5, -12, 0, 0, 1), X,
)


def times_all(lines, number):
    found = [1]
    for line in lines:
        found = product_by(found, line, number)
    return found


class ModularTest(unittest.TestCase):
    def test_inverses(self):
        for prime in (2, 3, 97):
            for number in range(1, prime):
                self.assertEqual(inverse_by(number, prime) * number % prime, 1)

    def test_divisions_and_common_divisors(self):
        dice = Dice(81)
        for _ in range(60):
            prime = dice.choose([3, 7, 31])
            lines = [line_modulo([dice.throw(0, 99) for _ in range(dice.throw(0, 5))] + [1], prime) for _ in range(3)]
            one, other = product_by(lines[0], lines[1], prime), product_by(lines[0], lines[2], prime)
            many, rest = division_by(one, lines[2], prime)
            self.assertLess(len(rest), len(lines[2]))
            self.assertEqual(product_by(many, lines[2], prime), line_modulo([a - b for a, b in zip(one, rest + [0] * len(one))], prime))
            shared = common_by(one, other, prime)
            self.assertEqual(division_by(shared, lines[0], prime)[1], [])
            for line in (one, other):
                self.assertEqual(division_by(line, shared, prime)[1], [])
            one, other = [division_by(line, shared, prime)[0] for line in (one, other)]
            first, second = cofactors_by(one, other, prime)
            whole = [a + b for a, b in zip(product_by(first, one, prime) + [0] * 20, product_by(second, other, prime) + [0] * 20)]
            self.assertEqual(line_modulo(whole, prime), [1])

    def test_factors_by_a_prime(self):
        dice = Dice(82)
        told = []
        for _ in range(60):
            prime = dice.choose([3, 5, 13])
            line = [dice.throw(0, 99) for _ in range(dice.throw(1, 9))] + [1]
            line = line_modulo(line, prime)
            if len(common_by(line, slope_by(line, prime), prime)) > 1:
                continue
            fixed = fixed_lines(line, prime)
            parts = factors_by(line, prime, fixed)
            told.append(len(parts))
            self.assertEqual(len(parts), len(fixed))
            self.assertEqual(times_all(parts, prime), line)
            for part in parts:
                self.assertEqual(len(fixed_lines(part, prime)), 1)
                self.assertEqual(monic_by(part, prime), part)
        self.assertGreater(len(set(told)), 3)


class FactorTest(unittest.TestCase):
    def test_lifted(self):
        dice = Dice(83)
        for _ in range(20):
            line = line_of(times(dense(dice, 4, (0,), 99), dense(dice, 3, (0,), 99)))
            told = fewest_factors(line)
            if told is None:
                continue
            prime, parts = told
            self.assertIn(prime, PRIMES)
            found, whole = lifted(line, parts, prime, 10 ** 40)
            self.assertGreater(whole, 10 ** 40)
            self.assertEqual(product_by(times_all(found, whole), [line[-1]], whole), line_modulo(line, whole))
            self.assertEqual([line_modulo(part, prime) for part in found], parts)

    def least_ones(self, poly):
        """What is told of each real root, each once, held to be a factor that is 0 there."""
        line = line_of(without_doubles(poly))
        found = []
        for low, high in isolated(line):
            if low == high:
                continue
            told = least_line(line, low, high)
            self.assertIsNotNone(quotient_line(line, told))
            self.assertNotEqual(sign_at(told, low), sign_at(told, high))
            told = told if told[-1] > 0 else [-count for count in told]
            if told not in found:
                found.append(told)
        return found

    def test_what_cannot_be_parted_stays(self):
        for poly in WHOLE:
            self.assertIn(self.least_ones(poly), ([line_of(poly)], []))
        for high in (7, 30, 60):
            self.assertEqual(self.least_ones(minus(power(X, high), number_poly(2))), [line_of(minus(power(X, high), number_poly(2)))])

    def test_products_are_parted(self):
        wholes = [poly for poly in WHOLE if poly != X]
        for at, one in enumerate(wholes):
            for other in wholes[:at]:
                wanted = sorted([line for poly in (one, other) for line in self.least_ones(poly)])
                self.assertEqual([line for line in sorted(self.least_ones(times(times(one, other), X))) if len(line) > 2], [
                    line for line in wanted if len(line) > 2
                ])
        many = ONE
        for poly in wholes:
            many = times(many, poly)
        self.assertEqual(
            sorted([line for line in self.least_ones(many) if len(line) > 2]),
            sorted([line_of(poly) for poly in wholes if len(line_of(poly)) > 2 and real_roots(poly)]),
        )

    def test_products_of_dense_ones(self):
        dice = Dice(84)
        for high, low in ((3, 4), (5, 5), (9, 7)):
            one, other = dense(dice, high, (0,), 10 ** 12), dense(dice, low, (0,), 10 ** 12)
            alone = self.least_ones(one) + self.least_ones(other)
            self.assertEqual(sorted(self.least_ones(times(one, other))), sorted(alone))

    def test_poly_of_hangs_on_the_number_alone(self):
        two, three = root_of(number_of((2, 1)), 2), root_of(number_of((3, 1)), 2)
        for number, wanted in (
            (two, linear(-2, 0, 1)), (Number(times(linear(-2, 0, 1), linear(-7, 0, 0, 5)), (13, 10), (3, 2)), linear(-2, 0, 1)),
            (sum_of(two, three), linear(1, 0, -10, 0, 1)), (real_roots(times(linear(1, 0, -10, 0, 1), linear(-9, 0, 1)))[-1], linear(1, 0, -10, 0, 1)),
            (number_of((-3, 7)), linear(3, 7)), (Number(times(linear(3, 7), linear(-1, 0, 1)), (-1, 2), (0, 1)), linear(3, 7)),
            (Number(power(linear(2, 0, -1), 3), (0, 1), (2, 1)), linear(-2, 0, 1)),
        ):
            self.assertEqual(poly_of(number), wanted)

    def test_quotients(self):
        for poly in WHOLE:
            for other in WHOLE:
                line = line_of(times(poly, other))
                self.assertEqual(quotient_line(line, line_of(other)), line_of(poly))
                line[0] += 1
                self.assertIsNone(quotient_line(line, line_of(other)))
        self.assertEqual(poly_of_line(quotient_line(line_of(X), [1])), X)


if __name__ == "__main__":
    unittest.main()
