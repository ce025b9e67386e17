"""Orders of products of powers of unknowns: each product is a KEY, an integer, greater ones behind.

Adding keys multiplies the products. A key has fields of so many bits, each with a spare bit that is 0.
"""

WIDTH = 32
FIELD = 0xFFFFFFFF
# The spare bit of each of five fields.
SPARE = 0x8000000080000000800000008000000080000000
# By the power of w, then of z, of y, of x; or, for x, y and z alone, by the degree in all, then by that in y and z,
# then in z.
BY_TOPS = 0
BY_DEGREE = 1


def key_of(order, powers):
    """The key of the powers of x, y, z and w."""
    x, y, z, w = powers
    if order == BY_TOPS:
        return (((((w << WIDTH) + z) << WIDTH) + y) << WIDTH) + x
    # The last two fields only serve to see whether one key divides another one.
    return (((((((x + y + z) << WIDTH) + y + z) << WIDTH) + z << WIDTH) + x) << WIDTH) + y


def powers_of(order, key):
    """The powers of x, y, z and w of a key."""
    if order == BY_TOPS:
        return (key & FIELD, (key >> WIDTH) & FIELD, (key >> 2 * WIDTH) & FIELD, key >> 3 * WIDTH)
    return ((key >> WIDTH) & FIELD, key & FIELD, (key >> 2 * WIDTH) & FIELD, 0)


def divides(one, other):
    """Whether a key divides another one."""
    return ((other | SPARE) - one) & SPARE == SPARE


def least_multiple(order, one, other):
    """The key of the least product that two keys divide."""
    return key_of(order, [max(high, low) for high, low in zip(powers_of(order, one), powers_of(order, other))])


def bounded_by(many, order, leads):
    """Whether a power of each unknown alone is one of some keys."""
    found = [False] * many
    for lead in leads:
        highs = [k for k, high in enumerate(powers_of(order, lead)) if high > 0]
        if len(highs) == 1:
            found[highs[0]] = True
    return all(found)
