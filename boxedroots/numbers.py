"""Live real numbers: each the one root that a polynomial has between two fractions."""

from boxedroots.common import common, primitive
from boxedroots.errors import BadNumber, Below, ByNought, NoFraction, NoNumber, NoPolynomial, NoWidth
from boxedroots.factoring import least_line
from boxedroots.isolating import changes_sign, isolated, single_root, without_doubles
from boxedroots.judging import is_fraction, is_number_to
from boxedroots.lines import line_of, poly_of_line, power_of_two, row_over, row_sign, sign_at
from boxedroots.polys import number_raised, stands_in, unknown_poly
from boxedroots.powersums import line_of_products, line_of_sums
from boxedroots.ratios import (
    greatest_of, is_less, least_of, ratio, ratio_minus, ratio_plus, ratio_times, sign_of_integer,
)

MOST_FIGURES = 60
MOST_ROOT = 6
# So many bits behind the point are looked at first, and always twice as many where these do not tell.
FIRST_BITS = 16


class Number:
    """A real number: a line without double roots that is 0 there, and two fractions about it.

    The line is below 0 at low, above 0 at high, and has no other root between; or both are the number itself.
    """

    def __init__(self, poly, low, high):
        if not stands_in(1, poly) or not poly.terms:
            raise BadNumber("poly")
        if not is_fraction(low) or not is_fraction(high) or is_less(high, low):
            raise BadNumber("stretch")
        told = told_of(line_of(without_doubles(poly)), low, high)
        if told is None:
            raise BadNumber("roots")
        self.line, self.low, self.high = told

    def __eq__(self, other):
        return isinstance(other, Number) and compared(self, other) == 0


def told_of(line, low, high):
    """The line, low and high of the one root of a line from one fraction to another, None if there is not just one."""
    found = single_root(line, low, high)
    if found is None:
        return None
    if found[0] == found[1] or len(line) == 2:
        place = found[0] if found[0] == found[1] else ratio(-line[0], line[1])
        return (-place[0], place[1]), place, place
    sign = sign_at(line, found[1])
    return tuple([sign * count for count in line]), found[0], found[1]


def number_with(told):
    """The Number with this line, low and high."""
    number = Number(unknown_poly(0), (0, 1), (0, 1))
    number.line, number.low, number.high = told
    return number


def number_within(line, low, high):
    """The Number that is the one root of a line from one fraction to another, None if there is not just one."""
    told = told_of(line, low, high)
    return None if told is None else settled(number_with(told))


def settled(number):
    """The same Number, its line being one that cannot be parted further."""
    if number.low == number.high:
        return number
    return number_with(told_of(least_line(list(number.line), number.low, number.high), number.low, number.high))


def number_of(fraction):
    """The Number of a fraction."""
    if not is_fraction(fraction):
        raise NoFraction()
    return number_with(((-fraction[0], fraction[1]), fraction, fraction))


def sign_beside(number, place):
    """The sign of a Number less a fraction."""
    if not is_less(number.low, place):
        return 1 if number.low != place else (0 if number.low == number.high else 1)
    if not is_less(place, number.high):
        return -1
    return -sign_at(number.line, place)


def floor_by(number, under):
    """The greatest integer that is at most the number times an integer above 0."""
    low = number.low[0] * under // number.low[1]
    if number.low == number.high:
        return low
    high = number.high[0] * under // number.high[1] + 1
    while high - low > 1:
        middle = (low + high) // 2
        if sign_beside(number, ratio(middle, under)) >= 0:
            low = middle
        else:
            high = middle
    return low


def near(number, bits):
    """A pair of fractions about a number, the same or as near to each other as a power of 2 tells."""
    under = power_of_two(bits)
    place = floor_by(number, under)
    low, high = greatest_of(number.low, ratio(place, under)), least_of(number.high, ratio(place + 1, under))
    return (low, high)


def stretch_of(number, width):
    """A pair of fractions, no more apart than a width, between which, or at one of which, a number is."""
    if not is_fraction(width) or width[0] <= 0:
        raise NoWidth()
    # By the number alone, whatever it was made of.
    under = power_of_two((width[1] // width[0]).bit_length())
    place = floor_by(number, under)
    return (ratio(place, under), ratio(place + 1, under))


def floor_of(number, many):
    """The greatest integer that is at most a number times 10, so many times as a factor."""
    if not is_number_to(MOST_FIGURES, many):
        raise NoNumber()
    return floor_by(number, number_raised(10, many))


def sign_of(poly, number):
    """The sign of a Poly of x alone at a number."""
    if not stands_in(1, poly):
        raise NoPolynomial()
    if number.low == number.high:
        return sign_at(line_of(poly), number.low)
    if changes_sign(common(poly, poly_of_line(number.line)), number.low, number.high):
        return 0
    bits = FIRST_BITS
    while True:
        low, high = near(number, bits)
        sign = row_sign(row_over(line_of(poly), (low, high)))
        if sign != 0:
            return sign
        bits = 2 * bits


def compared(one, other):
    """The sign of a number less another one."""
    if other.low == other.high:
        return sign_beside(one, other.low)
    if one.low == one.high:
        return -sign_beside(other, one.low)
    if are_same(one, other):
        return 0
    bits = FIRST_BITS
    while True:
        (low, high), (first, last) = near(one, bits), near(other, bits)
        if not is_less(first, high):
            return -1
        if not is_less(low, last):
            return 1
        bits = 2 * bits


def are_same(one, other):
    """Whether two numbers, neither of which is told by a fraction, are the same."""
    low, high = greatest_of(one.low, other.low), least_of(one.high, other.high)
    if not is_less(low, high):
        return False
    return changes_sign(common(poly_of_line(one.line), poly_of_line(other.line)), low, high)


def poly_of(number):
    """The Poly of x that is 0 at a number and cannot be parted further, so without double roots."""
    # By the number alone, whatever it was made of.
    return primitive(poly_of_line(settled(number).line))


def as_fraction(number):
    """The fraction that a number is, None if it is none."""
    if number.low == number.high:
        return number.low
    # The bottom of a fraction at which the line is 0 divides its last count.
    under = abs(number.line[-1])
    place = ratio(floor_by(number, under), under)
    return place if sign_beside(number, place) == 0 else None


def sum_of(one, other):
    """The sum of two numbers."""
    return together(one, other, line_of_sums, sum_of_ends)


def difference_of(one, other):
    """A number less another one."""
    return sum_of(one, turned_about(other))


def product_of(one, other):
    """The product of two numbers."""
    return together(one, other, line_of_products, product_of_ends)


def quotient_of(one, other):
    """A number divided by another one."""
    if sign_beside(other, (0, 1)) == 0:
        raise ByNought()
    return product_of(one, upside_down(other))


def together(one, other, line_by, spread_of):
    """The Number that comes of two, by what comes of lines that are 0 there, and of pairs of fractions about them."""
    one, other = settled(one), settled(other)
    whole = line_of(without_doubles(poly_of_line(line_by(one.line, other.line))))
    bits = FIRST_BITS
    while True:
        low, high = spread_of(near(one, bits), near(other, bits))
        number = number_within(whole, low, high)
        if number is not None:
            return number
        bits = 2 * bits


def sum_of_ends(one, other):
    """The pair of fractions about the sum of what is between two pairs."""
    return (ratio_plus(one[0], other[0]), ratio_plus(one[1], other[1]))


def product_of_ends(one, other):
    """The pair of fractions about the product of what is between two pairs."""
    low = high = ratio_times(one[0], other[0])
    for place in (ratio_times(one[0], other[1]), ratio_times(one[1], other[0]), ratio_times(one[1], other[1])):
        low, high = least_of(low, place), greatest_of(high, place)
    return (low, high)


def turned_about(number):
    """0 less a number."""
    line = [-count if at & 1 == 0 else count for at, count in enumerate(number.line)]
    return number_with((tuple(line), ratio_minus((0, 1), number.high), ratio_minus((0, 1), number.low)))


def upside_down(number):
    """1 divided by a number other than 0."""
    line = list(number.line)
    while line[0] == 0:
        line = line[1:]
    line.reverse()
    bits = FIRST_BITS
    while True:
        low, high = near(number, bits)
        if sign_of_integer(low[0]) == sign_of_integer(high[0]) != 0:
            return number_with(told_of(line, ratio(high[1], high[0]), ratio(low[1], low[0])))
        bits = 2 * bits


def root_of(number, many):
    """The real root of a number by this power, from 0 on if the power is even."""
    if not is_number_to(MOST_ROOT, many) or many == 0:
        raise NoNumber()
    if many & 1 == 0 and sign_beside(number, (0, 1)) < 0:
        raise Below()
    number = settled(number)
    line = [0] * (many * (len(number.line) - 1) + 1)
    for at, count in enumerate(number.line):
        line[many * at] = count
    whole = line_of(without_doubles(poly_of_line(line)))
    bits = FIRST_BITS
    while True:
        under = power_of_two(bits)
        place = floor_of_root(number, many, under)
        found = number_within(whole, ratio(place, under), ratio(place + 1, under))
        if found is not None:
            return found
        bits = 2 * bits


def floor_of_root(number, many, under):
    """The greatest integer that is at most the real root of a number times an integer above 0."""
    far = max(abs(number.low[0] // number.low[1]), abs(number.high[0] // number.high[1])) + 2
    low, high = 0 if many & 1 == 0 else -far * under, far * under
    while high - low > 1:
        middle = (low + high) // 2
        place = ratio(number_raised(middle, many), number_raised(under, many))
        if sign_beside(number, place) >= 0:
            low = middle
        else:
            high = middle
    return low


def real_roots(poly):
    """The ascending list of the Numbers at which a Poly of x alone is 0."""
    if not stands_in(1, poly) or not poly.terms:
        raise NoPolynomial()
    line = line_of(without_doubles(poly))
    return [number_with(told_of(line, low, high)) for low, high in isolated(line)]
