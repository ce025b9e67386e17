"""3.1 and 3.2: covers made by hand, of each kind of step, and what is none; leaves, and of which one a point is a root."""

import unittest

from boxedroots.covers import cover_fault, is_cover, leaf_of, leaves
from boxedroots.errors import NoCover, NoPoint
from boxedroots.polys import Poly, minus, number_poly, plus, power, times
from boxedroots.systems import System
from helping import NOUGHT, ONE, W, X, Y, Z, linear, nested, odd_things
from judge import judged

TWO = number_poly(2)
XY, XZ, YZ = times(X, Y), times(X, Z), times(Y, Z)
# Of x times y: either x is 0, or it is not, and then y is.
CROSS = System(2, (XY,), ())
X_PAPERS = ((ONE, (NOUGHT,), ONE), (ONE, (NOUGHT,), ONE))
CROSS_COVER = (
    ("part", X),
    ("drop", 0, (), (Y,)),
    ("chain", X_PAPERS),
    ("add", Y, (1,), (ONE,)),
    ("drop", 0, (0,), (X,)),
    ("chain", X_PAPERS + ((ONE, (NOUGHT,), X),)),
)
EMPTY = System(1, (X, ONE), ())


class CoverTest(unittest.TestCase):
    def fault(self, system, thing, number):
        found = cover_fault(system, thing)
        self.assertEqual(found, number)
        self.assertIs(type(found), type(number))
        self.assertIs(is_cover(system, thing), number is None)

    def swapped(self, at, step):
        return CROSS_COVER[:at] + (step,) + CROSS_COVER[at + 1:]

    def test_a_cover_with_each_kind_of_step(self):
        self.fault(CROSS, CROSS_COVER, None)
        self.assertEqual(judged(CROSS, CROSS_COVER)[0], None)
        self.fault(EMPTY, (("none", (), (NOUGHT, ONE)),), None)

    def test_example_e07(self):
        self.assertIs(is_cover(System(1, (X, number_poly(1)), ()), (("none", (), (Poly(()), number_poly(1))),)), True)

    def test_ends_too_early(self):
        for many in range(len(CROSS_COVER)):
            self.fault(CROSS, CROSS_COVER[:many], many)
        self.fault(EMPTY, (), 0)

    def test_steps_behind_the_last_state(self):
        self.fault(CROSS, CROSS_COVER + (("part", X),), 6)
        self.fault(CROSS, CROSS_COVER + (None, None), 6)
        self.fault(EMPTY, (("none", (), (NOUGHT, ONE)), ("none", (), (NOUGHT, ONE))), 1)

    def test_no_tuple(self):
        self.fault(CROSS, list(CROSS_COVER), -1)
        for thing in odd_things():
            self.fault(CROSS, thing, 0 if type(thing) is tuple else -1)
            self.fault(EMPTY, (thing,), 0)
            self.fault(CROSS, CROSS_COVER[:3] + (thing,) + CROSS_COVER[4:], 3)

    def test_steps_of_no_form(self):
        for step in (
            (), ("part",), ("part", X, X), ["part", X], ("parts", X), (b"part", X), ("Part", X), ("part", Z), ("part", 1),
            ("part", None), (X, "part"), ("part", (X,)), "part", (0, X), ("", X), (None, X), (("part",), X), ("part", [X]),
        ):
            self.fault(CROSS, (step,) + CROSS_COVER[1:], 0)
        for step in (
            ("add", Y, (1,)), ("add", Y, (1,), (ONE,), ()), ("add", Y, [1], (ONE,)), ("add", Y, (1,), [ONE]),
            ("add", Y, (True,), (ONE,)), ("add", Y, (-1,), (ONE,)), ("add", Y, (1, 0), (ONE,)), ("add", Y, (), (ONE,)),
            ("add", Y, (1,), ()), ("add", Y, (1,), (ONE, NOUGHT)), ("add", Y, (1,), (1,)), ("add", "y", (1,), (ONE,)),
            ("add", Z, (1,), (ONE,)), ("add", Y, (1,), (Z,)), ("add", Y, ("1",), (ONE,)), ["add", Y, (1,), (ONE,)],
            ("add", (1,), (ONE,)), ("add", Y, (1.5,), (ONE,)),
        ):
            self.fault(CROSS, self.swapped(3, step), 3)
        for step in (
            ("drop", 0, (0,)), ("drop", 0, (0,), (X,), ()), ("drop", -1, (0,), (X,)), ("drop", 2, (0,), (X,)),
            ("drop", False, (0,), (X,)), ("drop", "0", (0,), (X,)), ("drop", None, (0,), (X,)), ("drop", 0, (), (X,)),
            ("drop", 0, (0,), ()), ("drop", 0, (0,), (X, NOUGHT)), ("drop", 0, (0,), [X]), ("drop", 0, [0], (X,)),
            ("drop", 0, (0,), (None,)), ("drop", (0,), (0,), (X,)), ("drop", X, (0,), (X,)),
        ):
            self.fault(CROSS, self.swapped(4, step), 4)
        for step in (
            ("none", ()), ("none", (), (NOUGHT, ONE), ()), ("none", (0,), (NOUGHT, ONE)), ("none", (), (NOUGHT,)),
            ("none", (), (NOUGHT, ONE, ONE)), ("none", [], (NOUGHT, ONE)), ("none", (), [NOUGHT, ONE]),
            ("none", (), (NOUGHT, Y)), ("none", None, (NOUGHT, ONE)), ("none", (), (NOUGHT, True)), ("none",),
        ):
            self.fault(EMPTY, (step,), 0)
        for step in (("chain",), ("chain", X_PAPERS, ()), ["chain", X_PAPERS], ("chain", list(X_PAPERS))):
            self.fault(CROSS, self.swapped(2, step), 2)

    def test_steps_that_are_not_so(self):
        self.fault(CROSS, self.swapped(1, ("drop", 0, (), (X,))), 1)
        self.fault(CROSS, self.swapped(1, ("drop", 1, (), (Y,))), 1)
        self.fault(CROSS, self.swapped(1, ("drop", 0, (), (NOUGHT,))), 1)
        self.fault(CROSS, self.swapped(3, ("add", Y, (0,), (ONE,))), 3)
        self.fault(CROSS, self.swapped(3, ("add", Y, (2,), (ONE,))), 3)
        self.fault(CROSS, self.swapped(3, ("add", X, (1,), (ONE,))), 3)
        self.fault(CROSS, self.swapped(3, ("add", Y, (1,), (NOUGHT,))), 3)
        self.fault(CROSS, self.swapped(4, ("drop", 0, (1,), (X,))), 4)
        self.fault(EMPTY, (("none", (), (ONE, NOUGHT)),), 0)
        self.fault(EMPTY, (("none", (), (NOUGHT, NOUGHT)),), 0)
        self.fault(EMPTY, (("none", (), (ONE, ONE)),), 0)

    def test_the_integer(self):
        for many in (2, -1, -7, 10 ** 30):
            self.fault(CROSS, self.swapped(3, ("add", Y, (1,), (number_poly(many),))), None)
            self.fault(EMPTY, (("none", (), (NOUGHT, number_poly(many))),), None)
        # Twice y is put behind: of it the half of what is told would be needed.
        self.fault(CROSS, self.swapped(3, ("add", times(TWO, Y), (1,), (ONE,))), 3)
        self.fault(CROSS, self.swapped(3, ("add", plus(Y, ONE), (1,), (plus(X, ONE),))), 3)
        system = System(1, (linear(0, 2),), ())
        self.fault(system, (("drop", 0, (), ()),), 0)
        self.fault(system, (("add", X, (), (ONE,)), ("drop", 0, (), (TWO,)), ("chain", X_PAPERS)), None)
        self.fault(system, (("add", linear(0, 4), (), (ONE,)),), 0)
        self.fault(system, (("add", linear(1, 3), (), (ONE,)),), 0)
        self.fault(system, (("add", linear(2, 2), (), (ONE,)),), 0)

    def test_nought(self):
        self.fault(System(2, (NOUGHT,), ()), (("drop", 0, (), ()), ("chain", ())), None)
        self.fault(System(2, (NOUGHT,), (NOUGHT,)), (("none", (1,), (X,)),), None)
        self.fault(System(2, (), (NOUGHT,)), (("none", (1,), ()),), None)
        self.fault(System(2, (), (NOUGHT,)), (("none", (0,), ()),), 0)
        self.fault(System(2, (), (NOUGHT,)), (("none", (1000,), ()),), None)
        self.fault(System(2, (), (NOUGHT, X)), (("none", (1, 5), ()),), None)
        self.fault(System(2, (X,), (NOUGHT,)), (("none", (1,), (ONE,)),), 0)
        self.fault(System(1, (), ()), (("add", NOUGHT, (), ()), ("drop", 0, (), ()), ("chain", ())), None)
        self.fault(System(1, (X,), ()), (("add", NOUGHT, (), (ONE,)),), 0)
        self.fault(System(1, (X,), ()), (("add", X, (), (NOUGHT,)),), 0)
        self.fault(System(1, (X,), (number_poly(-3),)), (("none", (5,), (NOUGHT,)),), 0)
        self.fault(System(1, (number_poly(6),), (number_poly(-3),)), (("none", (1,), (ONE,)),), None)
        self.fault(System(1, (number_poly(6),), (number_poly(4),)), (("none", (1,), (ONE,)),), 0)

    def test_powers_up_to_1000(self):
        high = power(power(X, 50), 20)
        self.assertEqual(high.terms[0][0][0], 1000)
        for barred, whole in ((X, high), (number_poly(2), number_poly(2 ** 1000)), (times(X, Y), power(power(XY, 50), 20))):
            system = System(2, (whole,), (barred,))
            self.fault(system, (("none", (1000,), (ONE,)),), None)
            self.fault(system, (("none", (1001,), (ONE,)),), 0)
            self.fault(system, (("none", (1001,), (barred,)),), 0)
            self.fault(system, (("none", (999,), (ONE,)),), 0 if barred != number_poly(2) else None)
        dense = System(1, (power(linear(1, 1), 60),), (linear(1, 1),))
        self.fault(dense, (("none", (60,), (ONE,)),), None)
        self.fault(dense, (("none", (1000,), (power(power(linear(1, 1), 47), 20),)),), None)
        self.fault(dense, (("none", (1000,), (power(power(linear(1, 2), 47), 20),)),), 0)
        many = System(3, (XY,), (plus(plus(X, Y), plus(Z, ONE)),))
        self.fault(many, (("none", (1000,), (power(power(Z, 50), 20),)),), 0)
        self.fault(many, (("none", (1000,), (NOUGHT,)),), 0)

    def test_more_terms_than_by_hand(self):
        great = power(plus(plus(X, Y), plus(Z, ONE)), 12)
        self.assertGreater(len(great.terms), 300)
        system = System(3, (X,), ())
        self.fault(system, (("part", great), ("drop", 0, (), (X,))), 1)
        steps = (("add", times(X, great), (), (great,)), ("drop", 1, (), (great,)), ("chain", X_PAPERS))
        self.fault(system, steps, None)
        self.fault(system, (("add", times(X, power(X, 60)), (), (power(X, 60),)),) + steps[1:], 1)

    def test_leaves_need_chains(self):
        for equations in ((X, X), (ONE,), (NOUGHT,), (XY, Y), (XY, times(Y, Y)), (TWO, X)):
            papers = X_PAPERS * len(equations)
            self.fault(System(2, equations, ()), (("chain", papers),), 0)
            self.fault(System(2, equations, ()), (("chain", ()),), 0)
        self.fault(System(2, (), ()), (("chain", ()),), None)
        self.fault(System(2, (), (X,)), (("chain", ((ONE, (), X),)),), None)
        self.fault(System(2, (), (X,)), (("chain", ((ONE, (), Y),)),), 0)
        self.fault(System(2, (), (X,)), (("chain", ()),), 0)

    def test_papers_of_leaves(self):
        # x x - 2 ahead of x y - 1: the leading count x has a paper, as x times x is 2 and the first of the chain.
        first, second = linear(-2, 0, 1), minus(XY, ONE)
        lead_paper = (X, (ONE, NOUGHT), TWO)
        slope_paper = (X, (TWO, NOUGHT), number_poly(4))
        plain = (ONE, (NOUGHT, NOUGHT), ONE)
        papers = (plain, slope_paper, lead_paper, lead_paper)
        for equations in ((first, second), (second, first)):
            system = System(2, equations, ())
            self.fault(system, (("chain", papers),), None)
            self.assertEqual(judged(system, (("chain", papers),))[0], None)
            for wrong in (
                papers[:3], papers + (plain,), (), list(papers), None, papers[::-1], (plain,) + papers[1:3] + (plain,),
                (plain, slope_paper, plain, lead_paper), (plain, plain, lead_paper, lead_paper),
            ):
                self.fault(system, (("chain", wrong),), 0)
            for at in range(4):
                for thing in odd_things() + [
                    papers[at][:2], papers[at] + (ONE,), (ONE, (NOUGHT, NOUGHT), NOUGHT), list(papers[at]),
                    (papers[at][0], list(papers[at][1]), papers[at][2]), (papers[at][0], papers[at][1][:1], papers[at][2]),
                    (papers[at][0], papers[at][1] + (NOUGHT,), papers[at][2]), (NOUGHT, (NOUGHT, NOUGHT), NOUGHT),
                    (papers[at][0], papers[at][1], X), (NOUGHT, (NOUGHT, ONE), minus(NOUGHT, second)),
                ]:
                    self.fault(system, (("chain", papers[:at] + (thing,) + papers[at + 1:]),), 0)

    def test_counts_of_a_lead_are_nought_from_its_own_on(self):
        # x times y - 1: the paper of the leading count x may not take the polynomial itself.
        chain = (linear(-1, 1), minus(times(linear(2, 1), Y), ONE))
        system = System(2, chain, ())
        plain = (ONE, (NOUGHT, NOUGHT), ONE)
        good = (ONE, (ONE, NOUGHT), number_poly(3))
        papers = (plain, plain, good, good)
        self.fault(system, (("chain", papers),), None)
        # y times x + 2 is 1 and the second of the chain: right for the slope, but not for the leading count.
        other = (Y, (NOUGHT, ONE), ONE)
        self.fault(system, (("chain", papers[:3] + (other,)),), None)
        self.fault(system, (("chain", papers[:2] + (other,) + papers[3:]),), 0)
        more = (linear(0, 1), (linear(1, 1), NOUGHT), ONE)
        self.fault(system, (("chain", papers[:2] + (more, good)),), 0)
        first = (linear(2, 1), (linear(0, 0), NOUGHT), linear(2, 1))
        self.fault(system, (("chain", (first,) + papers[1:]),), 0)
        own = (linear(0, 1), (ONE, NOUGHT), ONE)
        self.fault(system, (("chain", (plain, own) + papers[2:]),), None)
        self.fault(system, (("chain", (own, plain) + papers[2:]),), 0)

    def test_free_unknowns_of_papers(self):
        system = System(3, (XY,), (Z,))
        papers = ((ONE, (NOUGHT,), X), (ONE, (NOUGHT,), X), (ONE, (NOUGHT,), Z))
        self.fault(system, (("chain", papers),), None)
        self.fault(system, (("chain", papers[:2] + ((W, (NOUGHT,), times(W, Z)),)),), 0)
        self.fault(system, (("chain", papers[:2] + ((Y, (NOUGHT,), YZ),)),), 0)
        self.fault(system, (("chain", papers[:2] + ((XZ, (NOUGHT,), times(XZ, Z)),)),), None)

    def test_things_nested_40_deep(self):
        deep = [
            nested(System(1, (X,), ()), 39, lambda thing: (thing,)), nested(X, 39, lambda thing: [thing, X]),
            nested(NoCover(X), 38, lambda thing: {0: thing}),
        ]
        for thing in deep:
            for step in (("part", thing), ("add", thing, (), (ONE,)), ("add", Y, thing, (ONE,)), ("add", Y, (), thing)):
                self.fault(CROSS, (step,), 0)
            for step in (("drop", thing, (), ()), ("drop", 0, thing, ()), ("drop", 0, (), thing), (thing, thing)):
                self.fault(CROSS, (step,), 0)
            for step in (("none", thing, (ONE,)), ("none", (), thing), ("chain", thing), ("chain", (thing, thing))):
                self.fault(CROSS, (step,), 0)

    def test_equal_calls(self):
        before = [poly.terms for poly in CROSS.equations]
        self.assertEqual([cover_fault(CROSS, CROSS_COVER) for _ in range(3)], [None] * 3)
        self.assertEqual([poly.terms for poly in CROSS.equations], before)


class LeavesTest(unittest.TestCase):
    def test_leaves(self):
        found = leaves(CROSS, CROSS_COVER)
        self.assertEqual(found, [((X,), ()), ((Y,), (X,))])
        self.assertIs(type(found), list)
        for pair in found:
            self.assertEqual([type(thing) for thing in (pair,) + pair], [tuple] * 3)
        found.clear()
        self.assertEqual(len(leaves(CROSS, CROSS_COVER)), 2)
        self.assertEqual(leaves(EMPTY, (("none", (), (NOUGHT, ONE)),)), [])

    def test_by_rising_tops(self):
        papers = tuple([(ONE, (NOUGHT,) * 3, ONE)] * 6)
        self.assertEqual(leaves(System(3, (Z, X, Y), ()), (("chain", papers),)), [((X, Y, Z), ())])

    def test_leaf_of(self):
        for x, y, number in ((0, 0, 0), (0, 5, 0), (3, 0, 1), (-1, 0, 1), (1, 1, None), (-2, 3, None)):
            self.assertEqual(leaf_of(CROSS, CROSS_COVER, ((x, 1), (y, 1))), number)
        self.assertEqual(leaf_of(CROSS, CROSS_COVER, ((0, 1), (-7, 3))), 0)
        self.assertIsNone(leaf_of(EMPTY, (("none", (), (NOUGHT, ONE)),), ((0, 1),)))

    def test_no_cover(self):
        for thing, number in (
            (CROSS_COVER[:4], 4), ((), 0), (None, -1), (list(CROSS_COVER), -1), (CROSS_COVER + (0,), 6), ((1, 2), 0),
            (CROSS_COVER[:3] + (("add", Y, (0,), (ONE,)),) + CROSS_COVER[4:], 3),
        ):
            for call in (leaves, leaf_of):
                for point in (((0, 1), (0, 1)), None):
                    arguments = (CROSS, thing) if call is leaves else (CROSS, thing, point)
                    with self.assertRaises(NoCover) as caught:
                        call(*arguments)
                    self.assertIs(type(caught.exception), NoCover)
                    self.assertEqual(caught.exception.number, number)
        for thing in odd_things():
            with self.assertRaises(NoCover) as caught:
                leaves(CROSS, thing)
            self.assertEqual(caught.exception.number, 0 if type(thing) is tuple else -1)

    def test_no_point(self):
        good = (1, 2)
        for point in odd_things() + [
            (good,), (good, good, good), [good, good], (good, (2, 4)), (good, 1), (good, (1, 0)), (good, (1, True)),
        ]:
            with self.assertRaises(NoPoint) as caught:
                leaf_of(CROSS, CROSS_COVER, point)
            self.assertIs(type(caught.exception), NoPoint)


if __name__ == "__main__":
    unittest.main()
