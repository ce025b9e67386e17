"""Polynomials of x alone as LINES, lists of integers, that at x ** 0 first, and as ROWS of counts over a stretch.

A row is a list of integers, the counts of boxedroots.bernstein times an integer above 0: it has the sign of the
polynomial at both ends, and as many changes of sign as there are roots between these, or an even number more.
"""

from math import comb, lcm

from boxedroots.polys import gathered, number_raised
from boxedroots.ratios import between, sign_of_integer
from boxedroots.spreading import shared_bottom, times_line, turned

# Where a stretch is to be cut, in parts of its length: all within its middle half.
MIDDLE = (1, 2)


def line_of(poly):
    """The line of a Poly of x alone."""
    found = [0] * (1 + max([powers[0] for powers, _ in poly.terms], default=0))
    for powers, count in poly.terms:
        found[powers[0]] = count
    return found


def poly_of_line(line):
    """The Poly of x alone of a line."""
    return gathered({(high, 0, 0, 0): count for high, count in enumerate(line)})


def sign_at(line, place):
    """The sign of a line at a fraction."""
    over, under = place
    found, weight = 0, 1
    for count in reversed(line):
        found = found * over + count * weight
        weight = weight * under
    return sign_of_integer(found)


def row_over(line, stretch):
    """The row of a line over a stretch."""
    low, high, under = shared_bottom(stretch)
    wholes = [[1]]
    for _ in range(len(line) - 1):
        wholes.append(times_line(wholes[-1], under, under))
    found = turned(line, low, high, wholes)
    last = len(line) - 1
    shared = 1
    for at in range(last + 1):
        shared = lcm(shared, comb(last, at))
    return [count * (shared // comb(last, at)) for at, count in enumerate(found)]


def cut_row(row, over, under):
    """The pair of the rows of both parts of a stretch, which is cut at over by under of its length."""
    if (over, under) == MIDDLE:
        return halved_row(row)
    one, other, here = [row[0]], [row[-1]], row
    for _ in range(len(row) - 1):
        here = [(under - over) * first + over * second for first, second in zip(here, here[1:])]
        one, other = [count * under for count in one], [count * under for count in other]
        one.append(here[0])
        other.append(here[-1])
    other.reverse()
    return one, other


def halved_row(row):
    """As cut_row, in the middle."""
    last = len(row) - 1
    one, other, here = [row[0] << last], [row[-1] << last], row
    for at in range(last):
        here = [first + second for first, second in zip(here, here[1:])]
        one.append(here[0] << (last - 1 - at))
        other.append(here[-1] << (last - 1 - at))
    other.reverse()
    return lightened(one), lightened(other)


def lightened(row):
    """The row without the powers of 2 that divide all of it."""
    shared = 0
    for count in row:
        shared = shared | count
    spare = (shared & -shared).bit_length() - 1
    return [count >> spare for count in row] if spare > 0 else row


def changes_in(row):
    """How often the sign changes in a row."""
    found, ahead = 0, 0
    for count in row:
        if count != 0:
            if (count > 0 and ahead < 0) or (count < 0 and ahead > 0):
                found += 1
            ahead = count
    return found


def row_sign(row):
    """The sign that all of a row have, 0 if there is none."""
    if all([count > 0 for count in row]):
        return 1
    return -1 if all([count < 0 for count in row]) else 0


def cuts_for(high):
    """The list of more parts (over, under) than a degree, within the middle half: one of them is no root."""
    parts = 1 << high.bit_length()
    found = [MIDDLE]
    for at in range(1, parts):
        found.extend([(2 * parts - at, 4 * parts), (2 * parts + at, 4 * parts)])
    return found


def cut_open(stretch, row):
    """The triple of a place within a stretch at which the row's polynomial is not 0, and the rows of both parts."""
    place, one, other = stretch[0], row, row
    for over, under in cuts_for(len(row) - 1):
        place = between(stretch[0], stretch[1], over, under)
        one, other = cut_row(row, over, under)
        if one[-1] != 0:
            break
    return place, one, other


def most_bits(line):
    """A number such that 2 to it exceeds all roots of a line, which is not 0, on both sides of 0."""
    last = abs(line[-1])
    # By Cauchy no root is greater than 1 and the greatest quotient.
    return max([count.bit_length() for count in line]) - last.bit_length() + 2


def power_of_two(bits):
    """2 so many times as a factor."""
    return number_raised(2, bits)
