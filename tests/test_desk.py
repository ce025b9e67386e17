"""11.1: a desk, line by line."""

import unittest

from boxedroots.desk import Desk
from boxedroots.errors import NoLine, NoName, NoNumber, NoPolynomial, NoPower, RootError, Unlike
from boxedroots.numbers import number_of
from boxedroots.systems import System
from helping import X, nested, odd_things


def told(*lines):
    """A desk to which lines have been told."""
    desk = Desk()
    for line in lines:
        desk.tell(line)
    return desk


CIRCLE = ("let s 2", "s : x^2 + y^2 = 5", "s : x = 2*y")


class DeskTest(unittest.TestCase):
    def says(self, desk, *rows):
        for line, answer in rows:
            found = desk.tell(line)
            self.assertEqual(found, answer, line)
            self.assertIs(type(found), str)

    def refused(self, desk, line, error, **fields):
        with self.assertRaises(RootError) as caught:
            desk.tell(line)
        self.assertIs(type(caught.exception), error, line)
        self.assertEqual(vars(caught.exception), fields)

    def test_each_form(self):
        self.says(
            Desk(), ("let s 2", "ok"), ("s : x^2 + y^2 = 5", "ok"), ("s : x = 2*y", "ok"), ("show s", "unknowns 2; x^2 + y^2 - 5 = 0; x - 2 * y = 0"),
            ("count s", "2"), ("real s", "2"), ("root s 0", "-2.000000 -1.000000"), ("root s 1", "2.000000 1.000000"), ("sign s 0 x", "-1"),
            ("sign s 1 x - 2", "0"), ("sign s 1 x*y", "1"), ("zero s y^2 - 1", "yes"), ("zero s y - 1", "no"), ("let t 2", "ok"), ("same s t", "no"),
            ("t : y^2 = 1", "ok"), ("t : 2*y - x = 0", "ok"), ("same s t", "yes"), ("s : x != 2", "ok"), ("same s t", "no"), ("count s", "1"),
            ("root s 0", "-2.000000 -1.000000"), ("show s", "unknowns 2; x^2 + y^2 - 5 = 0; x - 2 * y = 0; x - 2 != 0"), ("drop s", "ok"), ("show t", "unknowns 2; y^2 - 1 = 0; -x + 2 * y = 0"),
        )

    def test_figures(self):
        for poly, answer in (
            ("2*x + 1", "-0.500000"), ("3*x - 1", "0.333333"), ("3*x + 1", "-0.333334"), ("x", "0.000000"), ("x - 7", "7.000000"), ("x + 7", "-7.000000"),
            ("10000000*x - 1", "0.000000"), ("10000000*x + 1", "-0.000001"), ("1000000*x - 1", "0.000001"), ("x - 123456789012345678901234567890", "123456789012345678901234567890.000000"),
            ("x^3 - 2", "1.259921"), ("x^3 + 2", "-1.259922"), ("8*x - 80000001", "10000000.125000"), ("1000000*x + 999999", "-0.999999"), ("x^3 - 1000000*x^2 + x - 1000000", "1000000.000000"),
        ):
            self.says(told("let a 1", f"a : {poly} = 0"), ("root a 0", answer))
        self.says(told("let a 3", "a : x^2 = 2", "a : y = x^2 - x", "a : 3*z = y^2 + 2*x"), ("root a 0", "-1.414214 3.414213 2.942809"), ("root a 1", "1.414213 0.585786 1.057190"))
        great = told("let a 3", "a : x = " + "9" * 30, "a : y = x^60", "a : z = y^3")
        answer = great.tell("root a 0").split(" ")
        self.assertEqual([len(word) for word in answer], [30 + 7, 1800 + 7, 5400 + 7])

    def test_endless_and_none(self):
        desk = told("let a 2", "let b 1", "b : x^2 + 1 = 0", "let c 1", "c : 1 = 0")
        self.says(
            desk, ("count a", "endless"), ("real a", "endless"), ("count b", "2"), ("real b", "0"), ("count c", "0"), ("real c", "0"), ("zero c x", "yes"),
            ("zero a 0", "yes"), ("zero a x", "no"), ("show a", "unknowns 2"), ("same b c", "no"),
        )
        for line in ("root a 0", "sign a 0 x", "root b 0", "root c 0", "sign c 0 x", "sign c 999 x"):
            self.refused(desk, line, NoNumber)

    def test_full(self):
        desk = told("let a 1")
        for k in range(6):
            self.says(desk, (f"a : x^{k} = 0", "ok"), (f"a : x - {k} != 0", "ok"))
        text = desk.tell("show a")
        for line in ("a : x = 0", "a : x != 0", "a : 0 = 0", "a : x != x"):
            self.says(desk, (line, "full"))
        self.assertEqual(desk.tell("show a"), text)
        self.refused(desk, "a : y = 0", NoPolynomial)
        self.refused(desk, "a : y != 0", NoPolynomial)
        self.refused(desk, "a : x^61 = 0", NoLine)
        self.refused(desk, "b : x = 0", NoName, name="b")
        self.says(told("let a 1", *["a : x = 0"] * 6), ("a : x != 1", "ok"), ("a : x = 1", "full"))

    def test_let_in_the_place_of_an_elder_one(self):
        desk = told(*CIRCLE)
        self.says(desk, ("root s 0", "-2.000000 -1.000000"), ("let s 1", "ok"), ("show s", "unknowns 1"), ("count s", "endless"))
        self.refused(desk, "root s 0", NoNumber)
        self.says(desk, ("s : x = 3", "ok"), ("root s 0", "3.000000"), ("s : x != 3", "ok"), ("real s", "0"))
        self.refused(desk, "root s 0", NoNumber)

    def test_drop(self):
        desk = told(*CIRCLE)
        self.says(desk, ("root s 0", "-2.000000 -1.000000"), ("drop s", "ok"))
        for line in ("root s 0", "drop s", "show s", "count s", "s : x = 0"):
            self.refused(desk, line, NoName, name="s")
        self.says(desk, ("let s 1", "ok"), ("s : x^2 = 3", "ok"), ("root s 1", "1.732050"))

    def test_no_line(self):
        desk = told(*CIRCLE)
        for line in (
            "", " ", "let", "let s", "let s ", "let  s 2", "let s 2 ", " let s 2", "let s 02", "let s 00", "let s 1000", "let s -1", "let s x", "let S 2", "let abcdefghi 2",
            "let s1 2", "let 2", "let s 2 3", "Let s 2", "show", "show ", "show s ", "show s s", "show  s", "show S", "count", "count s 1", "real", "real s s", "root s",
            "root s 00", "root s 01", "root s 1000", "root s -1", "root s x", "root s 0 ", "root s 0 x", "root s  0", "sign s 0", "sign s 0 ", "sign s x", "sign s 00 x",
            "sign s 0 x y", "sign s 0 x^61", "sign s 1000 x", "sign s 0 x = 0", "zero s", "zero s ", "zero s x +", "zero s a", "zero s x = 0", "same s", "same s ", "same s s s",
            "same s  s", "same s 1", "drop", "drop s ", "drop s s", "s", "s :", "s : ", "s : x", "s : x =", "s : = 0", "s : x = 0 = 0", "s : x == 0", "s : x ! = 0", "s: x = 0",
            "s :x = 0", "s  : x = 0", " s : x = 0", "S : x = 0", "abcdefghi : x = 0", "s : x^61 = 0", "s : x = " + "1" * 31, "s : y z = 0", "s : x = 0\n", "let s 2\n", "show s\n",
            "s : x < 0", "s : 12", "s : 00", "s : 1 2", ": x = 0", "list", "help s", "x = 0", "sign s 0\nx", "s2 : x = 0", "zero s " + "(" * 21 + "x" + ")" * 21, "\n", "show\ns", "let s 2\nshow s", "same s s ",
        ):
            self.refused(desk, line, NoLine)
        for thing in odd_things() + [X, number_of((1, 2)), System(1, (), ()), Desk(), b"show s", ["show s"], ("show s",), nested("show s", 40, lambda part: (part,))]:
            if not isinstance(thing, str):
                self.refused(desk, thing, NoLine)
        for thing in odd_things():
            if isinstance(thing, str):
                self.refused(desk, thing, NoLine)
        self.says(desk, ("show s", "unknowns 2; x^2 + y^2 - 5 = 0; x - 2 * y = 0"))

    def test_forms_that_are_let_through(self):
        desk = told(*CIRCLE)
        self.says(
            desk, ("let let 1", "ok"), ("let : x=1", "ok"), ("show let", "unknowns 1; x - 1 = 0"), ("let show 1", "ok"), ("show : x - 1 != 0", "ok"), ("show show", "unknowns 1; x - 1 != 0"),
            ("let abcdefgh 3", "ok"), ("abcdefgh :   z*( x+1 ) !=00  ", "ok"), ("show abcdefgh", "unknowns 3; x * z + z != 0"), ("sign s 0  x + y ", "-1"), ("sign s 1 (x-2)^60", "0"),
            ("zero s  0", "yes"), ("same let let", "yes"), ("drop show", "ok"), ("let same 2", "ok"), ("same same s", "no"), ("s : x=x", "ok"), ("count s", "2"),
            ("let root 1", "ok"), ("root : x = 5", "ok"), ("root root 0", "5.000000"), ("let sign 1", "ok"), ("sign : x = -5", "ok"), ("sign sign 0 x", "-1"), ("let zero 1", "ok"), ("zero zero 0", "yes"),
        )

    def test_errors(self):
        desk = told(*CIRCLE, "let t 1", "t : x^2 = 2", "let e 2")
        for line, error, name in (
            ("show a", NoName, "a"), ("count abcdefgh", NoName, "abcdefgh"), ("real a", NoName, "a"), ("root a 0", NoName, "a"), ("sign a 0 w", NoName, "a"), ("zero a w", NoName, "a"),
            ("same a b", NoName, "a"), ("same s b", NoName, "b"), ("same b s", NoName, "b"), ("drop a", NoName, "a"), ("a : w = 0", NoName, "a"), ("a : w != 0", NoName, "a"), ("root let 0", NoName, "let"),
            ("root s 2", NoNumber, None), ("root s 999", NoNumber, None), ("root e 0", NoNumber, None), ("sign s 2 x", NoNumber, None), ("sign s 2 w", NoNumber, None), ("sign e 0 w", NoNumber, None),
            ("sign s 0 z", NoPolynomial, None), ("sign t 1 y", NoPolynomial, None), ("zero s z", NoPolynomial, None), ("zero t x*y", NoPolynomial, None), ("zero e w", NoPolynomial, None),
            ("same s t", Unlike, None), ("same t s", Unlike, None), ("let s 0", NoPower, None), ("let new 4", NoPower, None), ("let s 999", NoPower, None), ("let new 0", NoPower, None),
            ("s : z = 0", NoPolynomial, None), ("t : y != 0", NoPolynomial, None), ("t : x = y", NoPolynomial, None), ("e : w = 1", NoPolynomial, None),
        ):
            self.refused(desk, line, error, **({"name": name} if error is NoName else {}))
        # Nothing has changed.
        self.refused(desk, "show new", NoName, name="new")
        self.says(
            desk, ("show s", "unknowns 2; x^2 + y^2 - 5 = 0; x - 2 * y = 0"), ("show t", "unknowns 1; x^2 - 2 = 0"), ("show e", "unknowns 2"), ("root t 0", "-1.414214"),
            ("t : x + y = y", "ok"), ("show t", "unknowns 1; x^2 - 2 = 0; x = 0"), ("real t", "0"),
        )

    def test_two_desks_apart(self):
        one, other = Desk(), Desk()
        self.says(one, ("let a 1", "ok"), ("a : x = 1", "ok"))
        self.refused(other, "show a", NoName, name="a")
        self.says(other, ("let a 2", "ok"))
        self.says(one, ("show a", "unknowns 1; x - 1 = 0"), ("root a 0", "1.000000"))
        self.says(other, ("show a", "unknowns 2"))

    def test_a_long_row_of_lines(self):
        desk = Desk()
        for k in range(1, 30):
            name = "abcdefghijklmnopqrstuvwxyzabcd"[k:k + 2]
            self.says(desk, (f"let {name} 1", "ok"), (f"{name} : x^2 = {k * k}", "ok"), (f"root {name} 1", f"{k}.000000"), (f"sign {name} 0 x", "-1"), (f"count {name}", "2"))
            self.says(desk, (f"{name} : x != {k}", "ok"), (f"root {name} 0", f"-{k}.000000"), (f"real {name}", "1"), (f"same {name} {name}", "yes"))
            self.refused(desk, f"root {name} 1", NoNumber)
            self.refused(desk, f"let {name} 7", NoPower)
        for _ in range(40):
            self.says(desk, ("show de", "unknowns 1; x^2 - 9 = 0; x - 3 != 0"), ("root de 0", "-3.000000"))

    def test_equal_calls(self):
        self.assertEqual([told(*CIRCLE).tell(line) for line in ("root s 0", "show s")], [told(*CIRCLE).tell(line) for line in ("root s 0", "show s")])
        desk = told(*CIRCLE)
        self.assertFalse(desk == told(*CIRCLE).tell("show s"))


if __name__ == "__main__":
    unittest.main()
