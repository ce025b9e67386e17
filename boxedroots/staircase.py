"""From a base by degree to one by tops, where there are only so many products that no base reduces."""

from math import gcd, lcm

from boxedroots.ascending import put_in
from boxedroots.judging import UNKNOWNS
from boxedroots.orders import BY_DEGREE, BY_TOPS, divides, key_of, powers_of
from boxedroots.polys import gathered
from boxedroots.reducing import remainder_of, told


def unknown_keys(many, order):
    """The keys of the unknowns."""
    return [key_of(order, [1 if k == place else 0 for k in range(UNKNOWNS)]) for place in range(many)]


class Stairs:
    """Remainders by a base by degree as rows: a list of integers, one for each key that stays, over an integer.

    places are the numbers of these keys, as they come up; a row may be shorter than another one.
    """

    def __init__(self, many, reducers):
        self.reducers = reducers
        self.places = {}
        self.stays = []
        self.steps = unknown_keys(many, BY_DEGREE)
        self.moved = {}

    def row_of(self, key):
        """The row of a key."""
        here = remainder_of({key: 1}, self.reducers)
        many, _, rest = told(here)
        counts = {self.place_of(other): count for other, count in rest.items()}
        return [counts.get(place, 0) for place in range(len(self.stays))], many

    def row_behind(self, key, powers, rows):
        """The row of a key, rows telling those of all that divide it."""
        for k, high in enumerate(powers):
            if high > 0:
                row, under = rows[key - self.steps[k]]
                return self.times_unknown(row, under, k)
        return self.row_of(key)

    def place_of(self, key):
        """The number of a key that stays."""
        if key not in self.places:
            self.places[key] = len(self.stays)
            self.stays.append(key)
        return self.places[key]

    def moved_key(self, place, k):
        """The remainder of a key times an unknown, as a dict from places to integers, over an integer."""
        if (place, k) not in self.moved:
            row, many = self.row_of(self.stays[place] + self.steps[k])
            self.moved[(place, k)] = ({at: count for at, count in enumerate(row) if count != 0}, many)
        return self.moved[(place, k)]

    def times_unknown(self, row, under, k):
        """The row of a row times an unknown."""
        parts = [(count, self.moved_key(place, k)) for place, count in enumerate(row) if count != 0]
        whole = 1
        for _, (_, many) in parts:
            whole = lcm(whole, many)
        found = [0] * len(self.stays)
        for count, (counts, many) in parts:
            factor = count * (whole // many)
            for place, by in counts.items():
                found[place] += by * factor
        under = under * whole
        shared = gcd(under, gcd_of(found))
        return [count // shared for count in found], under // shared


def gcd_of(row):
    """The greatest integer that divides all of a row."""
    found = 0
    for count in row:
        found = gcd(found, count)
        if found == 1:
            return 1
    return found


class Echelon:
    """Rows, each with a place at which the later ones are 0, and how each is the sum of what was put in."""

    def __init__(self):
        self.rows = []

    def sum_to_nought(self, key, row):
        """The counts by which the row and the ones ahead come to 0, None if they do not; the row is kept then."""
        counts = {key: 1}
        for place, other, how in self.rows:
            if place < len(row) and row[place] != 0:
                shared = gcd(row[place], other[place])
                many, by = other[place] // shared, row[place] // shared
                row = row + [0] * (len(other) - len(row))
                other = other + [0] * (len(row) - len(other))
                row = [here * many - there * by for here, there in zip(row, other)]
                counts = {at: count * many for at, count in counts.items()}
                for at, count in how.items():
                    counts[at] = counts.get(at, 0) - count * by
                shared = gcd(gcd_of(row), gcd_of(list(counts.values())))
                row = [here // shared for here in row]
                counts = {at: count // shared for at, count in counts.items()}
        for place, here in enumerate(row):
            if here != 0:
                self.rows.append((place, row, counts))
                return None
        return counts


def base_by_tops(many, reducers):
    """The list of the Polys of the base by tops, the least one first, of the ideal of a base by degree."""
    stairs = Stairs(many, reducers)
    echelon = Echelon()
    steps = unknown_keys(many, BY_TOPS)
    rows = {}
    found, leads = [], []
    queue = [(0, -1, 0)]
    done = {}
    while queue:
        key, k, below = queue.pop(0)
        if key in done or any([divides(lead, key) for lead in leads]):
            continue
        done[key] = True
        row, under = stairs.row_of(0) if k < 0 else stairs.times_unknown(rows[below][0], rows[below][1], k)
        rows[key] = (row, under)
        counts = echelon.sum_to_nought(key, row)
        if counts is None:
            for place, step in enumerate(steps):
                put_in(queue, (key + step, place, key))
        else:
            leads.append(key)
            found.append(sum_of_keys(BY_TOPS, counts, rows))
    return found


def sum_of_keys(order, counts, rows):
    """The Poly of counts of rows by keys, each row standing for so many times its key as it is over."""
    whole = {key: count * rows[key][1] for key, count in counts.items()}
    shared = gcd_of(list(whole.values()))
    return gathered({powers_of(order, key): count // shared for key, count in whole.items()})
