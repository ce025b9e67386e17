"""The least polynomial that is 0 at a root of a polynomial of x alone: the factor that cannot be parted further.

Factors by a prime are made factors by a power of it that exceeds all counts of factors, and are then multiplied out.
"""

from itertools import combinations
from math import gcd, isqrt

from boxedroots.lines import sign_at
from boxedroots.modular import (
    cofactors_by, common_by, difference_by, division_by, factors_by, fixed_lines, inverse_by, line_modulo, monic_by,
    product_by, slope_by, trimmed,
)

PRIMES = (3, 5, 7, 11, 13, 17, 19, 23, 29, 31, 37, 41, 43, 47, 53, 59, 61, 67, 71, 73, 79, 83, 89, 97)
# So many primes are tried, and the one with the fewest factors is taken.
MOST_PRIMES = 4
# No more products than so many are tried: what is left is then not parted further.
MOST_PRODUCTS = 4000
# A line of a greater degree is not parted.
MOST_DEGREE = 150


def least_line(line, low, high):
    """The factor of a line that is 0 between two fractions, at which it has unlike signs, and cannot be parted.

    The line has no double roots and no content. If its degree is too great, or too many products would have to be
    tried, the factor may be one that can be parted.
    """
    told = fewest_factors(line) if len(line) <= MOST_DEGREE else None
    if told is None or len(told[1]) == 1:
        return line
    prime, parts = told
    size = isqrt(sum([count * count for count in line])) + 1
    goal = 2 * abs(line[-1]) * size << len(line)
    parts, whole = lifted(line, parts, prime, goal)
    while True:
        told = first_factor(line, parts, whole)
        if told is None:
            return line
        found, chosen = told
        if sign_at(found, low) != sign_at(found, high):
            return found
        line = quotient_line(line, found)
        parts = [part for at, part in enumerate(parts) if at not in chosen]


def first_factor(line, parts, whole):
    """The pair of a factor of a line that cannot be parted and of the places of its parts, None if none is found.

    The parts are the factors of the line by a power of a prime. The line itself is none.
    """
    tried = 0
    for many in range(1, len(parts) // 2 + 1):
        for chosen in combinations(range(len(parts)), many):
            tried += 1
            if tried > MOST_PRODUCTS:
                return None
            found = factor_of(line, [parts[at] for at in chosen], whole)
            if found is not None:
                return found, chosen
    return None


def fewest_factors(line):
    """The pair of a prime and the factors of a line by it, as few as some primes tell; None if no prime serves."""
    best = None
    tried = 0
    for prime in PRIMES:
        if line[-1] % prime == 0 or tried == MOST_PRIMES:
            continue
        here = monic_by(line_modulo(line, prime), prime)
        if len(common_by(here, slope_by(here, prime), prime)) > 1:
            continue
        fixed = fixed_lines(here, prime)
        tried += 1
        if best is None or len(fixed) < len(best[2]):
            best = (prime, here, fixed)
        if len(fixed) == 1:
            break
    return None if best is None else (best[0], factors_by(best[1], best[0], best[2]))


def lifted(line, parts, prime, goal):
    """The pair of the factors of a line, with 1 as last counts, by a power of a prime, and of this power.

    It is greater than the goal; parts are the factors by the prime.
    """
    whole = prime
    while whole <= goal:
        whole = whole * whole
    found = []
    front = inverse_by_power(line[-1], prime, whole)
    rest = line_modulo([count * front for count in line], whole)
    for at in range(len(parts) - 1):
        others = [1]
        for part in parts[at + 1:]:
            others = product_by(others, part, prime)
        one, rest = lifted_pair(rest, parts[at], others, prime, whole)
        found.append(one)
    return found + [rest], whole


def inverse_by_power(number, prime, whole):
    """The integer that comes to 1, as a remainder by a power of a prime, if it is multiplied by another one."""
    found, here = inverse_by(number, prime), prime
    while here < whole:
        here = here * here
        found = found * (2 - number * found) % here
    return found


def lifted_pair(line, one, other, prime, whole):
    """The two factors of a line by a power of a prime, that are these two by the prime; all have 1 as last counts."""
    first, second = cofactors_by(one, other, prime)
    here = prime
    while here < whole:
        here = here * here
        gap = difference_by(line, product_by(one, other, here), here)
        many, rest = division_by(product_by(first, gap, here), other, here)
        more = sum_by(product_by(second, gap, here), product_by(many, one, here), here)
        one, other = sum_by(one, more, here), sum_by(other, rest, here)
        gap = difference_by(sum_by(product_by(first, one, here), product_by(second, other, here), here), [1], here)
        many, rest = division_by(product_by(first, gap, here), other, here)
        less = sum_by(product_by(second, gap, here), product_by(many, one, here), here)
        first, second = difference_by(first, rest, here), difference_by(second, less, here)
    return one, other


def sum_by(one, other, number):
    """The sum of two lines."""
    return difference_by(one, [-count for count in other], number)


def factor_of(line, parts, whole):
    """The factor of a line that some parts by a power of a prime tell, None if they tell none."""
    last = line[-1]
    for part in parts:
        last = last * part[0] % whole
    if line[0] != 0 and (line[0] * line[-1]) % max(1, abs(middle_of(last, whole))) != 0:
        return None
    found = [line[-1]]
    for part in parts:
        found = product_by(found, part, whole)
    found = [middle_of(count, whole) for count in found]
    shared = 0
    for count in found:
        shared = gcd(shared, count)
    shared = shared if found[-1] > 0 else -shared
    found = [count // shared for count in found]
    return found if quotient_line(line, found) is not None else None


def middle_of(count, whole):
    """The integer of the same remainder that is nearest to 0."""
    count = count % whole
    return count - whole if 2 * count > whole else count


def quotient_line(one, other):
    """The quotient of a line by another one, in integers, None if there is a remainder."""
    rest = list(one)
    last = len(other) - 1
    found = [0] * max(0, len(one) - last)
    for at in range(len(one) - 1 - last, -1, -1):
        if rest[at + last] % other[-1] != 0:
            return None
        found[at] = rest[at + last] // other[-1]
        for place, count in enumerate(other):
            rest[at + place] -= found[at] * count
    return None if trimmed(rest) else found
