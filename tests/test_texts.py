"""10.1 and 10.2: texts of polynomials and systems, and reading them."""

import unittest
from itertools import combinations_with_replacement, product

from boxedroots.errors import BadLine, BadSystem, BadText, RootError
from boxedroots.numbers import number_of
from boxedroots.polys import Poly, exchanged, minus, number_poly, plus, power, times
from boxedroots.reading import read_poly, read_system
from boxedroots.roots import roots
from boxedroots.systems import System
from boxedroots.texts import poly_text, system_text
from helping import NOUGHT, ONE, W, X, Y, Z, Dice, linear, made, nested, odd_things, total


def fault(test, error, field, wanted, function, *arguments):
    with test.assertRaises(RootError) as caught:
        function(*arguments)
    test.assertIs(type(caught.exception), error)
    test.assertEqual(vars(caught.exception), {field: wanted})
    test.assertIs(type(getattr(caught.exception, field)), type(wanted))


class TextTest(unittest.TestCase):
    def test_known_texts(self):
        for text, poly in (
            ("0", NOUGHT), ("1", ONE), ("-1", number_poly(-1)), ("x", X), ("-x", times(number_poly(-1), X)), ("y", Y), ("z", Z), ("w", W),
            ("-3 * x^2 * y + z - 7", made({(2, 1, 0, 0): -3, (0, 0, 1, 0): 1, (0, 0, 0, 0): -7})), ("x^2 - y^2", minus(times(X, X), times(Y, Y))),
            ("x * y * z * w", times(times(X, Y), times(Z, W))), ("2 * x^60 * w^59 - 1", made({(60, 0, 0, 59): 2, (0, 0, 0, 0): -1})),
            ("x - 1", linear(-1, 1)), ("-x + 1", linear(1, -1)), ("x^2 + x + 1", linear(1, 1, 1)), ("-x^3 - 12 * x", linear(0, -12, 0, -1)),
            ("10 * x + 10", linear(10, 10)), ("x + y + z + w", total([X, Y, Z, W])), ("x * w^2 - y", made({(1, 0, 0, 2): 1, (0, 1, 0, 0): -1})),
            ("999999999999999999999999999999 * x", linear(0, 10 ** 30 - 1)), ("-100", number_poly(-100)),
        ):
            self.assertEqual(poly_text(poly), text)
            self.assertEqual(read_poly(text), poly)

    def test_e01(self):
        self.assertEqual(poly_text(times(minus(X, Y), plus(X, Y))), "x^2 - y^2")

    def test_great_ones(self):
        high = power(power(plus(X, number_poly(10 ** 29)), 60), 5)
        text = poly_text(high)
        self.assertTrue(text.startswith("x^300 + 3" + "0" * 31 + " * x^299 + "))
        self.assertTrue(text.endswith(" + 1" + "0" * 8700))
        self.assertEqual(poly_text(number_poly(-10 ** 5000)), "-1" + "0" * 5000)
        self.assertEqual(poly_text(linear(10 ** 9999 + 7, 10 ** 500 - 1)), "9" * 500 + " * x + 1" + "0" * 9998 + "7")

    def test_the_fact_of_texts(self):
        dice = Dice(71)
        for _ in range(60):
            poly = dice.poly((0, 1, 2, 3), 60, 12, 10 ** 30 - 1)
            self.assertEqual(read_poly(poly_text(poly)), poly)
        powers = sorted([tuple([row.count(k) for k in range(4)]) for row in combinations_with_replacement(range(5), 6)])[:300]
        whole = Poly(tuple([(high, 10 ** 30 - 1 if at % 2 else -10 ** 30 + 1) for at, high in enumerate(powers)]))
        self.assertEqual(len(whole.terms), 210)
        self.assertEqual(read_poly(poly_text(whole)), whole)
        most = Poly(tuple([((k // 60, k % 60, 0, 60), -10 ** 30 + 1) for k in range(300)]))
        self.assertEqual(read_poly(poly_text(most)), most)


class ReadTest(unittest.TestCase):
    def bad(self, wanted, text):
        fault(self, BadText, "at", wanted, read_poly, text)

    def test_forms(self):
        for text, poly in (
            ("(x + 1)*(x-1)", linear(-1, 0, 1)), ("-(x-y)^2", minus(NOUGHT, power(minus(X, Y), 2))), ("+x", X), ("2*3*x*x", linear(0, 0, 6)),
            ("  x  ^ 2 + 0005 ", linear(5, 0, 1)), ("x^002", linear(0, 0, 1)), ("x^0", ONE), ("0^0", ONE), ("(x - x)^0", ONE), ("0*x", NOUGHT),
            ("x - x", NOUGHT), ("(((x)))", X), ("x*2", linear(0, 2)), ("2^10", number_poly(1024)), ("2^60", number_poly(2 ** 60)),
            ("(+x)*(-y)", times(X, times(number_poly(-1), Y))), ("-2^2", number_poly(-4)), ("-x^2", linear(0, 0, -1)), ("(-2)^2", number_poly(4)),
            ("x*y^2*x", times(times(X, X), times(Y, Y))), ("1 - 2 - 3", number_poly(-4)), ("1 - (2 - 3)", number_poly(2)),
            ("x+x+x", linear(0, 3)), ("000", NOUGHT), ("-0", NOUGHT), ("0" * 30, NOUGHT), ("0" * 29 + "7", number_poly(7)), ("x ^ 60", power(X, 60)),
            ("(x+y+z+w)^2", power(total([X, Y, Z, W]), 2)), ("((x+1)^2-1)*w", times(W, linear(0, 2, 1))), ("2*(3)", number_poly(6)), ("(x^30)^2", power(X, 60)),
            ("x^20*x^40 - y^60", minus(power(X, 60), power(Y, 60))), ("9" * 30, number_poly(10 ** 30 - 1)), ("9" * 30 + "^2", number_poly((10 ** 30 - 1) ** 2)),
            ("(" * 20 + "x" + ")" * 20, X), ("(x)*((y))", times(X, Y)), ("x^" + "0" * 28 + "12", power(X, 12)), ("(x-1)^2*(x+1)", linear(1, -1, -1, 1)),
        ):
            self.assertEqual(read_poly(text), poly)
            self.assertIs(type(read_poly(text)), Poly)

    def test_no_string(self):
        for thing in odd_things() + [X, number_of((1, 2)), System(1, (), ()), nested("x", 40, lambda part: (part,)), b"x", ["x"], ("x",)]:
            if not isinstance(thing, str):
                self.bad(-1, thing)

    def test_the_first_sign_that_cannot_stand_there(self):
        for at, text in (
            (0, ""), (3, "   "), (0, "*x"), (0, ")"), (0, "^2"), (0, "a"), (0, "X"), (1, "2x"), (2, "x y"), (2, "1 2"), (1, "xy"), (1, "x("), (1, "--x"),
            (1, "+-x"), (3, "x +"), (4, "x + "), (4, "x + -y"), (4, "x - +y"), (2, "x*-y"), (2, "x**2"), (2, "x^-2"), (2, "x^y"), (2, "x^(2)"), (2, "x^"),
            (3, "x^2^3"), (3, "x^2x"), (4, "x^2 3"), (1, "("), (2, "(x"), (1, "()"), (1, "x)"), (3, "(x))"), (3, "(x)x"), (3, "(x)2"), (3, "(x)(y)"),
            (1, "x=0"), (1, "x\n"), (0, "\nx"), (1, "x/2"), (1, "1.5"), (1, "x,y"), (1, "(*x)"), (3, "x+(") , (3, "(x+)"),
            (0, "!"), (0, "~"), (0, "_"), (1, "0x1"), (4, "x  +"), (3, "x  y"), (2, "2 x"), (1, "2("), (4, "2 * "), (2, "(-"),
            (2, "(-)"), (3, "x^ y"), (3, "x^ "), (6, "((x)*("), (5, "(x+y+"), (1, "x'"), (3, "1 +\n2"), (1, "1\n"),
        ):
            self.bad(at, text)

    def test_wrong_somewhere_and_great_elsewhere(self):
        great = "1" * 31
        for at, text in (
            (32, great + "+" + ")"), (31, great + "x"), (5, "x^61 y"), (42, "(" * 21 + "x" + ")" * 20), (22, "(" * 22), (1, "x," + great),
            (35, great + "*x +"), (len("(x+1)^60*(y+1)^60*(z+1)^60)") - 1, "(x+1)^60*(y+1)^60*(z+1)^60)"), (43, "(" * 21 + "x" + ")" * 21 + "x"),
        ):
            self.bad(at, text)

    def test_great(self):
        for text in (
            "x^61", "2^61", "x^0" + "0" * 30, "1" * 31, "0" * 31, "x + " + "0" * 30 + "1", "x^60*x", "x*x^60", "(x^31)^2", "x^60*x - x^60*x", "0*(x^60*x)",
            "(x^60*x)*0", "(x^60*x)^0", "x^30*x^31", "(x+1)^60*(x+1)", "(x*y^31)^2", "(" * 21 + "x" + ")" * 21, "(((1" + "+(" * 18 + "x" + ")" * 21,
            "x^" + "9" * 30, "(x + y + z + w + 1)^60", "(x+y+z+w)^12", "(x+y+z+w)^12 - (x+y+z+w)^12", "(1+x)^60*(1+y)^60", "0*((1+x)^20*(1+y)^20)",
            "(2^60)^61", "x^60*y*x", "(x*w)^60*w", "1^61", "0^61", "y^00061",
        ):
            self.bad("great", text)

    def test_just_not_great(self):
        for text, terms in (
            ("x^60*y^60*z^60*w^60", 1), ("(x^30)^2*(y^30)^2", 1), ("(2^60)^60", 1), ("(1+x)^60*w^60", 61), ("(x+y+z+w)^10", 286), ("(1+x)^14*(1+y)^19", 300),
            ("(" * 20 + "1" + ")" * 20 + "*" + "(" * 20 + "x" + ")" * 20, 1), ("(x^60)^1", 1), ("((x+y)^60)^0", 1), ("x^60 - x^60 + x^59*x", 1),
        ):
            self.assertEqual(len(read_poly(text).terms), terms)

    def test_three_hundred_terms(self):
        rows = [f"x^{a}*y^{b}" for a, b in product(range(20), range(15))]
        self.assertEqual(len(read_poly(" + ".join(rows)).terms), 300)
        self.assertEqual(len(read_poly(" - ".join(rows + rows)).terms), 299)
        self.assertEqual(len(read_poly(" + ".join(rows) + f" - {rows[0]} + z").terms), 300)
        self.bad("great", " + ".join(rows + ["z"]))
        self.bad("great", "(" + " + ".join(rows + ["z"]) + ")*0")
        self.assertEqual(len(read_poly(" + ".join(rows + ["y"])).terms), 300)
        self.assertEqual(len(read_poly("(" + " + ".join(rows) + ")*z - z").terms), 299)
        self.assertEqual(len(read_poly("(" + " + ".join(rows) + ")*3 - 3").terms), 299)
        self.bad("great", "(" + " + ".join(rows) + ")*(1 + z)")

    def test_a_long_text(self):
        text = "+".join(["x*y"] * 4999)
        self.assertEqual(read_poly(text), times(number_poly(4999), times(X, Y)))
        self.bad(len(text) + 1, text + "+")
        self.bad(20000, "(" * 20000)
        self.bad("great", "(" * 9999 + "x" + ")" * 9999)
        self.assertEqual(read_poly(" " * 9999 + "x" + " " * 9999), X)
        self.assertEqual(read_poly("*".join(["1"] * 9999)), ONE)
        self.bad(1, "x" * 20000)
        self.bad("great", "1" * 20000)

    def test_equal_calls(self):
        self.assertEqual(read_poly("(x+y)^3"), read_poly("(x+y)^3"))


LINES = "unknowns 2\nx^2 + y^2 - 5 = 0\nx - 2 * y = 0\nx != 0\n"


class SystemTest(unittest.TestCase):
    def bad(self, wanted, text):
        fault(self, BadLine, "number", wanted, read_system, text)

    def wrong(self, wanted, text):
        fault(self, BadSystem, "part", wanted, read_system, text)

    def test_known_texts(self):
        system = System(2, (plus(times(X, X), minus(times(Y, Y), number_poly(5))), minus(X, times(number_poly(2), Y))), (X,))
        self.assertEqual(system_text(system), LINES)
        self.assertEqual(read_system(LINES), system)
        for text, system in (
            ("unknowns 1\n", System(1, (), ())), ("unknowns 3\n", System(3, (), ())), ("unknowns 3\n0 = 0\n-1 != 0\n", System(3, (NOUGHT,), (number_poly(-1),))),
            ("unknowns 3\n" + "z = 0\n" * 6 + "-x + y^60 != 0\n" * 6, System(3, (Z,) * 6, (minus(power(Y, 60), X),) * 6)),
        ):
            self.assertEqual(system_text(system), text)
            self.assertEqual(read_system(text), system)

    def test_forms(self):
        for text, system in (
            ("unknowns 1\nx!=0\nx=1\n", System(1, (linear(-1, 1),), (X,))), ("unknowns 2\n x * ( y + 1 )=  x^2 \n", System(2, (minus(times(X, plus(Y, ONE)), times(X, X)),), ())),
            ("unknowns 2\n0 != x - y\n2 = 0\n", System(2, (number_poly(2),), (minus(Y, X),))), ("unknowns 1\nx = x\n", System(1, (NOUGHT,), ())),
            ("unknowns 1\nx  !=  007\n+x=-x\n1!=1\n", System(1, (linear(0, 2),), (linear(-7, 1), NOUGHT))), ("unknowns 1\ny = y\n", System(1, (NOUGHT,), ())),
            ("unknowns 2\nx = 0\ny != 0\ny = 0\nx != 0\n", System(2, (X, Y), (Y, X))), ("unknowns 1\nx + w != w\n", System(1, (), (X,))),
        ):
            self.assertEqual(read_system(text), system)

    def test_differences_may_have_more_terms(self):
        rows = [f"x^{a}*y^{b}" for a, b in product(range(20), range(15))]
        left, right = " + ".join(rows), " + ".join(row.replace("x", "z") for row in rows[15:])
        found = read_system(f"unknowns 3\n{left} = {right}\n")
        self.assertEqual(len(found.equations[0].terms), 585)

    def test_bad_lines(self):
        for number, text in (
            (1, ""), (1, "\n"), (1, "unknowns 2"), (1, "unknowns\n"), (1, "unknowns \n"), (1, "unknowns  2\n"), (1, "unknowns 2 \n"), (1, " unknowns 2\n"),
            (1, "Unknowns 2\n"), (1, "unknowns 02\n"), (1, "unknowns -1\n"), (1, "unknowns +1\n"), (1, "unknowns x\n"), (1, "unknowns 2x\n"), (1, "x = 0\n"),
            (1, "unknowns " + "1" * 31 + "\n"), (1, "unknowns 00\nx = \n"), (2, "unknowns 2\n\n"), (2, "unknowns 2\nx\n"), (2, "unknowns 2\nx = 0"), (2, "unknowns 2\n "),
            (2, "unknowns 2\nx = 0 = 0\n"), (2, "unknowns 2\n= 0\n"), (2, "unknowns 2\nx =\n"), (2, "unknowns 2\nx ! = 0\n"), (2, "unknowns 2\nx !== 0\n"), (2, "unknowns 2\nx == 0\n"),
            (3, "unknowns 2\nx = 0\nx y = 0\n"), (3, "unknowns 2\nx = 0\nx^61 = 0\ny\n"), (3, "unknowns 2\nx = 0\ny = 0"), (4, "unknowns 2\nx = 0\ny = 0\nz"),
            (3, "unknowns 2\nx = 0\ny =\nz = 0"), (2, "unknowns 2\nunknowns 2\n"), (3, "unknowns 2\nx = 0\n\ny = 0\n"), (2, "unknowns 2\nx != !0\n"), (1, "2\n"),
            (2, "unknowns 2\nx < 0\n"), (2, "unknowns 7\n!= 0\n"), (2, "unknowns 2\nx = " + "1" * 31 + "\n"), (4, "unknowns 1\nx = 0\nx = 0\n0\n"), (2, "unknowns 1\nX = 0\n"), (2, "unknowns 1\n12\n"), (3, "unknowns 1\nx=x\n00\n"),
            (3, "unknowns 1\nx = 0\n \n"), (1, "unknowns 1 2\n"), (1, "unknowns2\n"), (1, "x"), (1, " "),
        ):
            self.bad(number, text)

    def test_no_string(self):
        for thing in odd_things() + [X, System(1, (), ()), [LINES], (LINES,), LINES.encode(), nested(LINES, 40, lambda part: [part])]:
            if not isinstance(thing, str):
                self.bad(0, thing)

    def test_bad_systems(self):
        for part, text in (
            ("many", "unknowns 0\n"), ("many", "unknowns 4\nw = 0\n"), ("many", "unknowns " + "9" * 30 + "\n"), ("equations", "unknowns 1\n" + "x = 0\n" * 7),
            ("barred", "unknowns 1\n" + "x != 0\n" * 7), (("equation", 0), "unknowns 1\ny = 0\n"), (("equation", 1), "unknowns 2\nx = 0\nz != 0\nz = x\n"),
            (("barred", 0), "unknowns 2\nx = 0\nz != 0\n"), (("barred", 5), "unknowns 3\n" + "x != 0\n" * 5 + "w != 0\n"), ("equations", "unknowns 1\n" + "y = 0\n" * 7),
        ):
            self.wrong(part, text)
        self.bad(3, "unknowns 0\nx = 0\ny\n")
        self.bad(9, "unknowns 1\n" + "x = 0\n" * 7 + "x = 0")

    def test_read_back(self):
        dice = Dice(72)
        for round_ in range(40):
            many = 1 + round_ % 3
            polys = [[dice.poly(tuple(range(many)), 60, 5, 10 ** 30 - 1) for _ in range(dice.throw(0, 6))] for _ in range(2)]
            system = System(many, tuple(polys[0]), tuple(polys[1]))
            self.assertEqual(read_system(system_text(system)), system)

    def test_the_same_roots_behind_the_text(self):
        system = read_system("unknowns 2\n(x - 1)*(x + 2) = 0\ny^2 = x + 3\nx*y != 2\n")
        self.assertEqual(roots(read_system(system_text(system))), roots(system))
        self.assertEqual(len(roots(system)), 2)

    def test_exchanged_unknowns(self):
        poly = read_poly("3*x^2*y - z")
        self.assertEqual(poly_text(exchanged(poly, 0, 2)), "-x + 3 * y * z^2")


if __name__ == "__main__":
    unittest.main()
