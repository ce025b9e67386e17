"""What the tests share: polynomials made in a fixed order, odd objects, and slow arithmetic to compare with."""

from fractions import Fraction
from itertools import product

from boxedroots.errors import BadPoly, RootError
from boxedroots.polys import Poly, number_poly, plus, power, times, unknown_poly

X, Y, Z, W = [unknown_poly(k) for k in range(4)]
ONE = number_poly(1)
NOUGHT = Poly(())


class Dice:
    """Numbers that look thrown, the same ones in each run."""

    def __init__(self, seed):
        self.state = seed * 2654435761 + 12345

    def throw(self, low, high):
        self.state = (self.state * 6364136223846793005 + 1442695040888963407) % 2 ** 64
        return low + (self.state >> 33) % (high - low + 1)

    def choose(self, things):
        return things[self.throw(0, len(things) - 1)]

    def poly(self, unknowns=(0, 1, 2, 3), most=3, terms=5, size=9):
        counts = {}
        for _ in range(self.throw(1, terms)):
            powers = tuple([self.throw(0, most) if k in unknowns else 0 for k in range(4)])
            counts[powers] = self.throw(-size, size)
        return made(counts)

    def fraction(self):
        return pair(Fraction(self.throw(-9, 9), self.throw(1, 9)))


def pair(number):
    """A Fraction as the package writes it."""
    return (number.numerator, number.denominator)


def made(counts):
    """The Poly of a dict from powers to count, by the class itself."""
    return Poly(tuple([(powers, counts[powers]) for powers in sorted(counts) if counts[powers] != 0]))


def linear(*counts):
    """The Poly of x with these counts, that at x ** 0 first."""
    return made({(high, 0, 0, 0): count for high, count in enumerate(counts)})


def total(polys):
    found = NOUGHT
    for poly in polys:
        found = plus(found, poly)
    return found


def dict_of(poly):
    return dict(poly.terms)


def dict_product(one, other):
    """The product by the terms, in the slowest way."""
    found = {}
    for (first, count), (second, many) in product(one.terms, other.terms):
        powers = tuple([a + b for a, b in zip(first, second)])
        found[powers] = found.get(powers, 0) + count * many
    return {powers: count for powers, count in found.items() if count != 0}


def is_right(poly):
    """Whether a Poly has the form that is promised, but for how many and how great its terms are."""
    terms = poly.terms
    if type(poly) is not Poly or type(terms) is not tuple:
        return False
    for term in terms:
        if type(term) is not tuple or len(term) != 2 or type(term[1]) is not int or term[1] == 0:
            return False
        powers = term[0]
        if type(powers) is not tuple or len(powers) != 4 or [p for p in powers if type(p) is not int or p < 0]:
            return False
    return all(terms[k][0] < terms[k + 1][0] for k in range(len(terms) - 1))


def stands_at(poly, k, high):
    """The Poly, without the unknown k, that stands at a power of it."""
    found = NOUGHT
    for powers, count in poly.terms:
        if powers[k] == high:
            term = number_poly(count)
            for other in range(4):
                for _ in range(powers[other] if other != k else 0):
                    term = times(term, unknown_poly(other))
            found = plus(found, term)
    return found


def nested(thing, deep, pack):
    """A thing inside so many packs."""
    for _ in range(deep):
        thing = pack(thing)
    return thing


def odd_things():
    """Objects of many kinds: none is a tuple of terms, a point, or an integer from 0 to 60."""
    def function():
        return None

    return [
        None, True, False, "", "x", "1", b"", b"\x01", bytearray(b"a"), [], [1], {}, {0: 1}, range(2), slice(1),
        Ellipsis, NotImplemented, object(), int, str, Poly, ValueError, function, len, [].append, iter([]),
        memoryview(b"ab"), (1,), ("",), (None,), (True, False), X, NOUGHT, RootError(), BadPoly(0), BadPoly(X), 1 << 70,
        -1, [0], (0,), (0, 1), ((0, 1),), [((0, 0, 0, 0), 1)], ([(0, 0, 0, 0), 1],), (X, X), [X],
        nested(0, 40, lambda thing: (thing,)), nested(X, 39, lambda thing: [thing]),
        nested(power(plus(X, ONE), 30), 39, lambda thing: (thing, X)), nested("", 40, lambda thing: {0: thing}),
        nested(BadPoly(3), 38, lambda thing: ((0, 0, 0, 0), thing)), tuple(range(20000)), list(range(20000)),
        ((((0, 0, 0, 0), 1),),) * 400, nested((), 40, lambda thing: ((thing, thing) if len(thing) == 0 else (thing,))),
    ]
