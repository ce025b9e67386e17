"""4.1 and 4.2: chains, papers, regular chains, and papers that are told."""

import unittest
from itertools import product

from boxedroots.chains import is_chain, is_paper, is_regular, needed, paper_for
from boxedroots.errors import NoChain, NoPolynomial
from boxedroots.polys import lead, minus, number_poly, plus, power, slope, times, top
from boxedroots.systems import System
from helping import NOUGHT, ONE, W, X, Y, Z, Dice, linear, made, nested, odd_things
from judge import is_right_paper

TWO = number_poly(2)
ROOT = linear(-2, 0, 1)
XY, XZ, YZ = times(X, Y), times(X, Z), times(Y, Z)
# (many, chain): regular ones, finite and with free unknowns, with leading counts that are integers, or not.
REGULAR = (
    (1, ()), (3, ()), (1, (X,)), (2, (X,)), (3, (X,)), (3, (Y,)), (3, (Z,)), (1, (ROOT,)), (2, (ROOT,)),
    (1, (linear(6, -5, 1),)), (2, (XY,)), (3, (XY,)), (2, (ROOT, minus(power(Y, 2), X))), (2, (ROOT, minus(XY, ONE))),
    (3, (X, Y, Z)), (3, (ROOT, Z)), (3, (XY, plus(XZ, ONE))), (3, (ROOT, minus(XY, ONE), minus(times(YZ, X), Y))),
    (3, (minus(power(Y, 2), X), minus(power(Z, 2), Y))), (3, (minus(times(XY, Y), ONE), plus(times(YZ, Z), X))),
    (2, (linear(0, 1, 1), plus(times(linear(1, 2), power(Y, 3)), linear(3, 0, 5)))), (3, (plus(XY, times(Z, Z)),)),
    (3, (minus(power(X, 3), TWO), plus(times(X, power(Y, 2)), ONE), plus(plus(XZ, times(Y, power(Z, 2))), TWO))),
    (2, (linear(1, 1), plus(power(Y, 5), X))), (3, (plus(power(Z, 2), XY),)),
)
# Chains that are none of the kind: a leading count is 0 at a root of those ahead, or a slope is.
IRREGULAR = (
    (1, (power(X, 2),)), (2, (power(XY, 2),)), (2, (X, XY)), (2, (linear(0, -1, 1), XY)), (2, (ROOT, power(Y, 2))),
    (2, (linear(0, 1), plus(power(Y, 2), X))), (3, (X, plus(power(Z, 2), times(Y, X)))), (2, (power(X, 2), Y)),
    (2, (linear(-1, 0, 1), minus(times(linear(1, 1), Y), ONE))), (3, (times(XY, X), times(plus(Z, Y), plus(Z, Y)))),
    (3, (X, Y, times(plus(X, Y), Z))), (3, (ROOT, minus(power(Y, 2), TWO), minus(times(minus(X, Y), Z), ONE))),
    (2, (linear(-1, 0, 1), minus(power(Y, 2), linear(1, 1)))), (3, (XY, times(Y, Z))),
)


class ChainTest(unittest.TestCase):
    def test_chains(self):
        for many, chain in REGULAR + IRREGULAR:
            self.assertIs(is_chain(many, chain), True)
            self.assertIs(is_chain(3, chain), True)
            self.assertIs(is_chain(many, list(chain)), False)
            self.assertIs(is_chain(many, chain + (ONE,)), False)
            self.assertIs(is_chain(many, chain + (W,)), False)

    def test_no_chains(self):
        for many, thing in (
            (1, (Y,)), (2, (X, Z)), (2, (XZ,)), (3, (W,)), (2, (Y, X)), (2, (X, X)), (2, (X, power(X, 2))), (2, (ONE,)),
            (2, (NOUGHT,)), (2, (X, ONE)), (2, (ONE, X)), (3, (Z, Y, X)), (3, (X, YZ, XZ)), (2, (X, None)), (2, (X, "y")),
            (2, ((X,),)), (2, X), (2, (X, (Y,))), (1, (NOUGHT,)), (2, (X, Y, Y)),
        ):
            self.assertIs(is_chain(many, thing), False)
            self.assertIs(is_regular(many, thing), False)
            self.refused(many, thing)
        for thing in odd_things() + [nested(System(1, (), ()), 39, lambda thing: (thing,))]:
            for chain in (thing, (thing,), (X, thing)) if type(thing) is not type(X) else (thing, (thing, thing)):
                self.assertIs(is_chain(3, chain), False)
                self.assertIs(is_regular(3, chain), False)
                self.refused(3, chain)

    def refused(self, many, chain):
        for call in (
            lambda: needed(many, chain), lambda: is_paper(many, chain, X, None), lambda: paper_for(many, chain, X),
            lambda: paper_for(many, chain, W),
        ):
            with self.assertRaises(NoChain) as caught:
                call()
            self.assertIs(type(caught.exception), NoChain)

    def test_needed(self):
        self.assertEqual(needed(2, ()), ())
        self.assertEqual(needed(2, (XY,)), (X, X))
        self.assertEqual(needed(2, (ROOT, minus(power(Y, 2), X))), (ONE, linear(0, 2), ONE, times(TWO, Y)))
        for many, chain in REGULAR + IRREGULAR:
            found = needed(many, chain)
            self.assertIs(type(found), tuple)
            wanted = [call(poly, top(poly)) for poly in chain for call in (lead, slope)]
            self.assertEqual(list(found), wanted)

    def test_regular(self):
        for many, chain in REGULAR:
            self.assertIs(is_regular(many, chain), True)
            self.assertIs(is_regular(many, list(chain)), False)
        for many, chain in IRREGULAR:
            self.assertIs(is_chain(many, chain), True)
            self.assertIs(is_regular(many, chain), False)
            with self.assertRaises(NoChain):
                paper_for(many, chain, X)

    def test_a_root_that_is_told_tells_of_a_chain(self):
        # By the third step: x - a, y - b, l z - 1, l being 0 at (a, b) or not.
        for a, b, c in product((-1, 0, 2), repeat=3):
            chain = (linear(-a, 1), minus(Y, number_poly(b)), minus(times(minus(XY, number_poly(c)), Z), ONE))
            self.assertIs(is_regular(3, chain), a * b != c)


class IsPaperTest(unittest.TestCase):
    def test_right_papers(self):
        for many, chain, poly, paper in (
            (1, (ROOT,), X, (X, (ONE,), TWO)), (1, (ROOT,), ONE, (ONE, (NOUGHT,), ONE)), (2, (), XY, (ONE, (), XY)),
            (2, (ROOT,), XY, (X, (Y,), times(TWO, Y))), (2, (XY,), Y, (NOUGHT, (NOUGHT,), ONE)),
            (1, (ROOT,), NOUGHT, (X, (ONE,), minus(TWO, power(X, 2)))),
        ):
            right = is_right_paper(many, chain, dict(poly.terms), paper)
            self.assertIs(is_paper(many, chain, poly, paper), right)
        self.assertIs(is_paper(1, (ROOT,), X, (X, (ONE,), TWO)), True)
        self.assertIs(is_paper(2, (), XY, (ONE, (), XY)), True)

    def test_wrong_papers(self):
        chain = (ROOT, minus(XY, ONE))
        good = (X, (ONE, NOUGHT), TWO)
        self.assertIs(is_paper(2, chain, X, good), True)
        for thing in (
            good[:2], good + (ONE,), list(good), (X, [ONE, NOUGHT], TWO), (X, (ONE,), TWO), (X, (), TWO), (ONE, good[1], TWO),
            (X, (ONE, NOUGHT, NOUGHT), TWO), (X, (ONE, NOUGHT), ONE), (X, (ONE, ONE), TWO), (X, (NOUGHT, ONE), TWO),
            (NOUGHT, (NOUGHT, NOUGHT), NOUGHT), (ONE, (NOUGHT, NOUGHT), X), (X, (ONE, NOUGHT), 2), (X, (ONE, 0), TWO),
            (XZ, (Z, NOUGHT), times(TWO, Z)), (W, (ONE, NOUGHT), TWO), (X, (ONE, Z), TWO), (1, (ONE, NOUGHT), TWO),
            (X, NOUGHT, TWO), {0: X, 1: (ONE, NOUGHT), 2: TWO}, (TWO, (ONE, NOUGHT), X),
        ):
            self.assertIs(is_paper(2, chain, X, thing), False)
        self.assertIs(is_paper(3, chain, X, (XZ, (Z, NOUGHT), times(TWO, Z))), True)
        self.assertIs(is_paper(2, (XY,), X, (ONE, (NOUGHT,), X)), True)
        self.assertIs(is_paper(2, (XY,), Y, (ONE, (NOUGHT,), Y)), False)
        self.assertIs(is_paper(2, (XY,), Y, (X, (ONE,), NOUGHT)), False)

    def test_odd_things(self):
        for thing in odd_things() + [nested(System(1, (X,), ()), 39, lambda thing: [thing])]:
            self.assertIs(is_paper(1, (ROOT,), X, thing), False)
            for paper in ((thing, (ONE,), TWO), (X, thing, TWO), (X, (thing,), TWO), (X, (ONE,), thing)):
                if paper != (X, (ONE,), TWO) and not (type(thing) is tuple and thing == (ONE,)):
                    self.assertIs(is_paper(1, (ROOT,), X, paper), False)
            with self.assertRaises(NoChain):
                is_paper(1, (thing, thing), X, thing)

    def test_of_polynomials_with_other_unknowns(self):
        self.assertIs(is_paper(1, (ROOT,), Y, (X, (ONE,), TWO)), False)
        self.assertIs(is_paper(1, (ROOT,), Y, (ONE, (NOUGHT,), ONE)), False)


class PaperForTest(unittest.TestCase):
    def test_papers_that_are_told(self):
        dice = Dice(21)
        for many, chain in REGULAR:
            unknowns = tuple(range(many))
            polys = [dice.poly(unknowns, 2, 3, 3) for _ in range(4)] + list(needed(many, chain)) + [ONE, X]
            for poly in polys:
                paper = paper_for(many, chain, poly)
                if paper is not None:
                    self.assertTrue(is_right_paper(many, chain, dict(poly.terms), paper))
                    self.assertIs(is_paper(many, chain, poly, paper), True)
            for poly in needed(many, chain) + (ONE, number_poly(-7)):
                self.assertIsNotNone(paper_for(many, chain, poly))

    def test_the_lead_takes_only_what_is_ahead(self):
        for many, chain in REGULAR:
            for at, poly in enumerate(chain):
                paper = paper_for(many, chain, lead(poly, top(poly)))
                self.assertTrue(all(not count.terms for count in paper[1][at:]))

    def test_none_where_it_is_nought_at_some_root(self):
        for many, chain in REGULAR:
            self.assertIsNone(paper_for(many, chain, NOUGHT))
            for poly in chain:
                self.assertIsNone(paper_for(many, chain, poly))
                self.assertIsNone(paper_for(many, chain, times(poly, plus(X, TWO))))
            if chain:
                self.assertIsNone(paper_for(many, chain, plus(chain[0], times(chain[-1], X))))

    def test_none_just_if(self):
        roots = linear(6, -5, 1)
        self.assertIsNone(paper_for(1, (roots,), linear(-2, 1)))
        self.assertIsNone(paper_for(1, (roots,), times(linear(-3, 1), linear(7, 1))))
        self.assertIsNotNone(paper_for(1, (roots,), linear(-4, 1)))
        # x x is 2, y y is x: y - x is 0 nowhere, x - y y everywhere; (x + y y) (y - 1) nowhere.
        chain = (ROOT, minus(power(Y, 2), X))
        self.assertIsNotNone(paper_for(2, chain, minus(Y, X)))
        self.assertIsNone(paper_for(2, chain, minus(X, power(Y, 2))))
        self.assertIsNotNone(paper_for(2, chain, times(plus(X, power(Y, 2)), minus(Y, ONE))))
        self.assertIsNone(paper_for(2, chain, minus(power(Y, 4), TWO)))
        # x x is 2, y y is 2: y - x is 0 at two of the four roots.
        chain = (ROOT, minus(power(Y, 2), TWO))
        self.assertIsNone(paper_for(2, chain, minus(Y, X)))
        self.assertIsNone(paper_for(2, chain, plus(Y, X)))
        self.assertIsNotNone(paper_for(2, chain, plus(plus(Y, X), ONE)))
        # x y is 0: y is, for almost all x; x is not, nor x - 5.
        self.assertIsNone(paper_for(2, (XY,), Y))
        self.assertIsNone(paper_for(2, (XY,), times(Y, linear(-5, 1))))
        self.assertIsNotNone(paper_for(2, (XY,), X))
        self.assertIsNotNone(paper_for(2, (XY,), plus(Y, linear(-5, 1))))
        self.assertIsNotNone(paper_for(3, (XY,), plus(Y, Z)))
        self.assertIsNone(paper_for(3, (minus(power(Y, 2), X),), minus(times(power(Y, 2), Z), XZ)))
        self.assertIsNone(paper_for(3, (minus(power(Y, 2), power(X, 2)),), minus(Y, X)))

    def test_against_roots_among_integers(self):
        dice = Dice(5)
        for _ in range(40):
            xs = sorted({dice.throw(-3, 3) for _ in range(3)})
            first = ONE
            for x in xs:
                first = times(first, linear(-x, 1))
            values = {x: sorted({dice.throw(-3, 3), dice.throw(-3, 3)}) for x in xs}
            if len({len(ys) for ys in values.values()}) > 1:
                continue
            # The product of y - b, the b's put through the points (x, b) by x alone, times what is 0 at no x.
            second = dice.choose([ONE, linear(5, 1), linear(7, 0, 1)])
            for at in range(len(values[xs[0]])):
                weight, line = 1, NOUGHT
                for x in xs:
                    part = number_poly(values[x][at])
                    under = 1
                    for other in xs:
                        if other != x:
                            part = times(part, linear(-other, 1))
                            under *= x - other
                    line = plus(times(number_poly(under), line), times(number_poly(weight), part))
                    weight *= under
                second = times(second, minus(times(number_poly(weight), Y), line))
            chain = (first, second)
            self.assertIs(is_regular(2, chain), True)
            poly = dice.poly((0, 1), 2, 3, 3)
            at_roots = [
                sum(c * x ** p[0] * y ** p[1] for p, c in poly.terms) for x in xs for y in values[x]
            ]
            self.assertIs(paper_for(2, chain, poly) is None, 0 in at_roots)

    def test_errors(self):
        for poly in (Z, times(X, Z), W, plus(Z, ONE)):
            with self.assertRaises(NoPolynomial) as caught:
                paper_for(2, (ROOT,), poly)
            self.assertIs(type(caught.exception), NoPolynomial)
            with self.assertRaises(NoChain):
                paper_for(2, (power(X, 2),), poly)
            with self.assertRaises(NoChain):
                paper_for(2, [ROOT], poly)
        for thing in odd_things():
            if type(thing) is not type(X):
                with self.assertRaises(NoPolynomial):
                    paper_for(2, (ROOT,), thing)
        self.assertIsNotNone(paper_for(3, (ROOT,), Z))

    def test_equal_calls_and_what_went_in(self):
        chain = REGULAR[17][1]
        before = [poly.terms for poly in chain]
        self.assertEqual(paper_for(3, chain, XZ), paper_for(3, chain, XZ))
        self.assertEqual([poly.terms for poly in chain], before)

    def test_the_fourth_unknown(self):
        chain = (ROOT, minus(power(W, 2), plus(X, Y)))
        self.assertIs(is_chain(4, chain), True)
        self.assertIs(is_chain(3, chain), False)
        self.assertIs(is_regular(4, chain), True)
        self.assertIs(is_regular(4, (power(W, 2),)), False)
        for poly in (W, plus(times(W, Z), X), plus(W, ONE)):
            self.assertTrue(is_right_paper(4, chain, dict(poly.terms), paper_for(4, chain, poly)))
        self.assertIsNone(paper_for(4, chain, minus(power(W, 4), plus(times(TWO, XY), plus(TWO, power(Y, 2))))))

    def test_powers_beyond_those_by_hand(self):
        high = power(power(X, 60), 60)
        self.assertIs(is_regular(1, (minus(high, ONE),)), True)
        self.assertIs(is_regular(2, (linear(-1, 1), made({(0, 60, 0, 0): 1, (3, 0, 0, 0): 5}))), True)


if __name__ == "__main__":
    unittest.main()
