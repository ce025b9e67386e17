"""Real roots of polynomials of x alone: each between two fractions, by counting the changes of sign in rows."""

from boxedroots.common import common, primitive, quotient
from boxedroots.lines import changes_in, cut_row, line_of, most_bits, power_of_two, row_over, sign_at
from boxedroots.polys import slope
from boxedroots.ratios import between


def without_doubles(poly):
    """The Poly of x alone, not 0, with the same roots, each of them simple, and no content."""
    return primitive(quotient(primitive(poly), primitive(common(primitive(poly), slope(primitive(poly), 0)))))


def isolated(line):
    """The list of pairs of fractions (low, high), ascending, with a root of a line without double roots each.

    It is strictly between them, and none is at one of them; or they are the same, and it is there.
    """
    far = power_of_two(max(0, most_bits(line)))
    return roots_over(line, ((-far, 1), (far, 1)), None)


def roots_over(line, stretch, most):
    """As isolated, of the roots strictly within a stretch; no more than one more than the most, if there is one."""
    found = []
    left = [(stretch, row_over(line, stretch))]
    while left and (most is None or len(found) <= most):
        (low, high), row = left.pop()
        if low == high:
            found.append((low, high))
            continue
        changes = changes_in(row)
        if changes == 1 and row[0] != 0 and row[-1] != 0:
            found.append((low, high))
        elif changes > 0:
            place = between(low, high, 1, 2)
            one, other = cut_row(row, 1, 2)
            left.append(((place, high), other))
            if one[-1] == 0:
                left.append(((place, place), []))
            left.append(((low, place), one))
    return found


def single_root(line, low, high):
    """The one root of a line without double roots from one fraction to another, as isolated tells it.

    None if there is none, or more than one.
    """
    if low == high:
        return (low, high) if sign_at(line, low) == 0 else None
    ends = [place for place in (low, high) if sign_at(line, place) == 0]
    inner = roots_over(line, (low, high), 1 - len(ends))
    if len(inner) + len(ends) != 1:
        return None
    return inner[0] if inner else (ends[0], ends[0])


def changes_sign(poly, low, high):
    """Whether a Poly of x alone has unlike signs at two fractions.

    Where it is 0 at neither, has no double root and at most one between them, that tells whether it has one.
    """
    line = line_of(poly)
    return sign_at(line, low) != sign_at(line, high)
