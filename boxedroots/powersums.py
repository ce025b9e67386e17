"""Lines whose roots are the sums, or the products, of the roots of two lines, by the sums of the roots' powers.

A line is made MONIC by looking at its roots times its last count: then all counts are integers, and all sums are.
"""

from math import comb


def monic(line):
    """The line of the roots times the last count, which has 1 as its last count."""
    last, weight = len(line) - 1, 1
    found = [1]
    for at in range(last - 1, -1, -1):
        found.append(line[at] * weight)
        weight = weight * line[-1]
    found.reverse()
    return found


def sums_of_powers(line, many):
    """The list of the sums of the roots' powers, up to the power many, of a monic line."""
    last = len(line) - 1
    found = [last]
    for high in range(1, many + 1):
        whole = high * line[last - high] if high <= last else 0
        for step in range(1, min(high - 1, last) + 1):
            whole += line[last - step] * found[high - step]
        found.append(-whole)
    return found


def line_by_sums(sums):
    """The monic line of as many roots as there are sums of powers, but that at 0."""
    found = [1]
    for high in range(1, len(sums)):
        whole = 0
        for step in range(1, high + 1):
            whole += found[high - step] * sums[step]
        found.append(-whole // high)
    found.reverse()
    return found


def weighted(counts, number):
    """The counts, each times an integer, as often as there are counts ahead.

    Sums of powers become those of the roots times the integer, a line that of the roots divided by it.
    """
    found, weight = [], 1
    for count in counts:
        found.append(count * weight)
        weight = weight * number
    return found


def line_of_sums(one, other):
    """A line whose roots are the sums of a root of one line and one of another."""
    many = (len(one) - 1) * (len(other) - 1)
    first, second = sums_of_powers(monic(one), many), sums_of_powers(monic(other), many)
    first, second = weighted(first, other[-1]), weighted(second, one[-1])
    sums = []
    for high in range(many + 1):
        sums.append(sum([comb(high, at) * first[at] * second[high - at] for at in range(high + 1)]))
    return weighted(line_by_sums(sums), one[-1] * other[-1])


def line_of_products(one, other):
    """A line whose roots are the products of a root of one line and one of another."""
    many = (len(one) - 1) * (len(other) - 1)
    first, second = sums_of_powers(monic(one), many), sums_of_powers(monic(other), many)
    sums = [here * there for here, there in zip(first, second)]
    return weighted(line_by_sums(sums), one[-1] * other[-1])
