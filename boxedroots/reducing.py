"""Reducing a sum of terms by others, each term being a KEY (boxedroots.orders) with its count."""

from math import gcd, lcm

from boxedroots.ascending import put_in
from boxedroots.orders import divides, key_of, powers_of
from boxedroots.polys import gathered

# So many bits more, and a common divisor of all counts is looked for.
GROWTH = 60


class Reducer:
    """A Poly that reduces others: at tells where it stands, then its greatest key, the count there, and the rest."""

    def __init__(self, at, order, poly):
        counts = counts_of(order, poly)
        self.at = at
        self.lead = max(list(counts))
        self.head = counts[self.lead]
        self.tail = [(key, counts[key]) for key in counts if key != self.lead]


class Remainder:
    """What is left of a sum, times over by under, and the lists of what was taken away and of what stays."""

    def __init__(self, counts):
        self.counts = dict(counts)
        self.places = sorted(counts)
        self.over = 1
        self.under = 1
        self.grown = 0
        self.used = []
        self.rest = []

    def stay(self, key, count):
        """Put a term aside that nothing reduces."""
        self.rest.append((key, count * self.over, self.under))

    def reduce(self, key, count, reducer):
        """Take a term away by a multiple of a reducer."""
        shared = gcd(count, reducer.head)
        many = abs(reducer.head) // shared
        step = count // shared if reducer.head > 0 else -(count // shared)
        if many != 1:
            self.scale(many)
        shift = key - reducer.lead
        self.used.append((reducer.at, shift, step * self.over, self.under))
        counts, places = self.counts, self.places
        for there, by in reducer.tail:
            place = there + shift
            if place in counts:
                counts[place] -= by * step
            else:
                counts[place] = -by * step
                put_in(places, place)

    def scale(self, many):
        """Have many times the counts, and so many times less of them."""
        self.counts = {key: count * many for key, count in self.counts.items()}
        self.under = self.under * many
        self.grown += many.bit_length()

    def lighten(self):
        """Divide the counts by what divides all of them."""
        self.grown = 0
        shared = 0
        for count in self.counts.values():
            shared = gcd(shared, count)
            if shared == 1:
                return
        if shared > 1:
            self.counts = {key: count // shared for key, count in self.counts.items()}
            over = self.over * shared
            most = gcd(over, self.under)
            self.over = over // most
            self.under = self.under // most


def counts_of(order, poly):
    """The dict from keys to counts of a Poly."""
    return {key_of(order, powers): count for powers, count in poly.terms}


def poly_from(order, counts):
    """The Poly of a dict from keys to counts."""
    return gathered({powers_of(order, key): count for key, count in counts.items()})


def reducer_for(key, reducers):
    """The first of the reducers whose greatest key divides a key, None if there is none."""
    for reducer in reducers:
        if divides(reducer.lead, key):
            return reducer
    return None


def remainder_of(counts, reducers, limit=None):
    """The Remainder of a dict from keys to counts, wholly reduced; None if that takes integers of more bits."""
    here = Remainder(counts)
    while here.places:
        key = here.places.pop()
        count = here.counts.pop(key)
        if count == 0:
            continue
        reducer = reducer_for(key, reducers)
        if reducer is None:
            here.stay(key, count)
        else:
            here.reduce(key, count, reducer)
            if here.grown > GROWTH:
                here.lighten()
                if limit is not None and here.under.bit_length() > limit:
                    return None
    return here


def told(here):
    """The triple (many, fronts, rest) of a Remainder, in integers.

    So many times the sum are the fronts, a dict from places of reducers to dicts from keys to counts, times the
    reducers, and the rest, a dict from keys to counts.
    """
    many = 1
    for _, _, _, under in here.used:
        many = lcm(many, under)
    for _, _, under in here.rest:
        many = lcm(many, under)
    fronts = {}
    for at, shift, over, under in here.used:
        row = fronts.setdefault(at, {})
        row[shift] = row.get(shift, 0) + over * (many // under)
    rest = {key: over * (many // under) for key, over, under in here.rest}
    return many, fronts, rest
