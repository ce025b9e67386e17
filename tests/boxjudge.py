"""The tests' own judge of boxings, by the words of 6.1, 6.2 and 7.1, reckoning with Fractions by itself."""

from fractions import Fraction
from itertools import product
from math import comb

from judge import slope_counts


def own_degrees(counts, many):
    return [max([powers[k] for powers in counts], default=0) for k in range(many)]


def own_counts(counts, box):
    """The dict of 6.1 of a dict from powers to counts, by powers of s first, and by binomials then."""
    many = len(box)
    degrees = own_degrees(counts, many)
    rows = {powers[:many]: Fraction(count) for powers, count in counts.items()}
    for k, (low, high) in enumerate(box):
        low, high = Fraction(*low), Fraction(*high)
        found = {}
        for place, count in rows.items():
            for at in range(place[k] + 1):
                there = place[:k] + (at,) + place[k + 1:]
                part = count * comb(place[k], at) * low ** (place[k] - at) * (high - low) ** at
                found[there] = found.get(there, 0) + part
        rows = found
    for k, last in enumerate(degrees):
        found = {}
        for place, count in rows.items():
            for at in range(place[k], last + 1):
                there = place[:k] + (at,) + place[k + 1:]
                found[there] = found.get(there, 0) + count * Fraction(comb(at, place[k]), comb(last, place[k]))
        rows = found
    places = product(*[range(last + 1) for last in degrees])
    return {place: rows.get(place, Fraction(0)) for place in places}


def own_sign(counts, box):
    found = own_counts({p: c for p, c in counts.items() if c != 0}, box).values()
    if all(count > 0 for count in found):
        return 1
    return -1 if all(count < 0 for count in found) else 0


def value_placed(counts, k, place):
    """The dict with a fraction in the place of the unknown k."""
    found = {}
    for powers, count in counts.items():
        there = powers[:k] + (0,) + powers[k + 1:]
        found[there] = found.get(there, 0) + count * Fraction(*place) ** powers[k]
    return {p: c for p, c in found.items() if c != 0}


def own_holds(counts, k, box, bound):
    for sign in (1, -1):
        rows = {}
        for powers, count in counts.items():
            rest = powers[:k] + (0,) + powers[k + 1:]
            for at in range(powers[k] + 1):
                row = rows.setdefault(at, {})
                part = count * sign ** powers[k] * comb(powers[k], at) * bound ** (powers[k] - at)
                row[rest] = row.get(rest, 0) + part
        rows = {at: {p: c for p, c in row.items() if c != 0} for at, row in rows.items()}
        wanted = own_sign(rows.get(0, {}), box)
        if wanted == 0 or any(row and own_sign(row, box) != wanted for row in rows.values()):
            return False
    return True


def own_fault(chain, thing, box=()):
    """What boxing_fault is to tell of a thing for a finite chain."""
    k = len(box)
    if k == len(chain):
        return None if type(thing) is tuple and len(thing) == 0 else ("pieces",)
    counts = dict(chain[k].terms)
    if type(thing) is not tuple or len(thing) != 2:
        return ("pieces",)
    bound, pieces = thing
    if type(bound) is not int or bound < 1 or not own_holds(counts, k, box, bound):
        return ("bound",)
    if not own_pieces(bound, pieces):
        return ("pieces",)
    for at, (low, high, below) in enumerate(pieces):
        if below is None:
            if own_sign(counts, box + ((low, high),)) == 0:
                return (at, "sign")
            continue
        ends = [own_sign(value_placed(counts, k, place), box) for place in (low, high)]
        if ends[0] * ends[1] != -1 or own_sign(slope_counts(chain[k], k), box + ((low, high),)) == 0:
            return (at, "sign")
        fault = own_fault(chain, below, box + ((low, high),))
        if fault is not None:
            return (at,) + fault
    return None


def own_pieces(bound, pieces):
    if type(pieces) is not tuple or not pieces:
        return False
    at = Fraction(-bound)
    for piece in pieces:
        if type(piece) is not tuple or len(piece) != 3 or not own_fraction(piece[0]) or not own_fraction(piece[1]):
            return False
        if Fraction(*piece[0]) != at or Fraction(*piece[1]) <= at:
            return False
        at = Fraction(*piece[1])
    return at == bound


def own_fraction(thing):
    if type(thing) is not tuple or len(thing) != 2 or any(type(part) is not int for part in thing) or thing[1] < 1:
        return False
    return (Fraction(*thing).numerator, Fraction(*thing).denominator) == thing


def own_boxes(thing, box=()):
    if thing == ():
        return [box]
    found = []
    for low, high, below in thing[1]:
        if below is not None:
            found += own_boxes(below, box + ((low, high),))
    return found
