"""Making boxings: pieces are cut, and the boxes over which they stand made narrower, until each keeps its sign."""

from boxedroots.bernstein import bounds
from boxedroots.lines import cut_open, line_of, row_over, row_sign
from boxedroots.narrowing import is_narrow_beside, narrower, open_cut, sign_placed
from boxedroots.polys import lead, number_raised, slope
from boxedroots.spreading import sign_in


def boxing_over(chain, box):
    """The pair of a box, made narrower, of the first of a regular finite chain, and the boxing of the rest over it."""
    k = len(box)
    if k == len(chain):
        return box, ()
    box, bound = bound_over(chain, box)
    box, pieces = line_pieces(chain[0], bound) if k == 0 else pieces_over(chain, box, bound)
    found = []
    for low, high, rooted in pieces:
        if not rooted:
            found.append((low, high, None))
            continue
        inner, below = boxing_over(chain, box + ((low, high),))
        # What was told over the wider box holds over the narrower one, too.
        box, (first, last) = inner[:k], inner[k]
        found.extend([(low, first, None)] if low != first else [])
        found.append((first, last, below))
        found.extend([(last, high, None)] if last != high else [])
    return box, (bound, tuple(found))


def bound_over(chain, box):
    """The pair of a box, made narrower, and of a power of 2 that bounds the roots of the next Poly over it."""
    k = len(box)
    head = lead(chain[k], k)
    while sign_in(head, box) == 0:
        box = narrower(chain, box)
    low, high = -1, 0
    while not bounds(chain[k], k, box, number_raised(2, high)):
        low, high = high, max(1, 2 * high)
    while high - low > 1:
        middle = (low + high) // 2
        if bounds(chain[k], k, box, number_raised(2, middle)):
            high = middle
        else:
            low = middle
    return box, number_raised(2, high)


def line_pieces(poly, bound):
    """The pair of () and the list of the pieces (low, high, rooted) of a Poly of x alone without double roots."""
    left = [(((-bound, 1), (bound, 1)), row_over(line_of(poly), ((-bound, 1), (bound, 1))))]
    found = []
    while left:
        stretch, row = left.pop()
        if row_sign(row) != 0:
            found.append(stretch + (False,))
        elif row_crosses(row):
            found.append(stretch + (True,))
        else:
            place, one, other = cut_open(stretch, row)
            left.append(((place, stretch[1]), other))
            left.append(((stretch[0], place), one))
    return (), found


def row_crosses(row):
    """Whether the slope of a row's polynomial keeps a sign and its ends have unlike ones."""
    steps = [behind - ahead for ahead, behind in zip(row, row[1:])]
    return row_sign(steps) != 0 and (row[0] < 0 < row[-1] or row[-1] < 0 < row[0])


def pieces_over(chain, box, bound):
    """The pair of a box, made narrower, and the list of the pieces (low, high, rooted) of the next Poly over it."""
    k = len(box)
    poly, below = chain[k], slope(chain[k], k)
    left = [((-bound, 1), (bound, 1))]
    found = []
    while left:
        stretch = left.pop()
        if sign_in(poly, box + (stretch,)) != 0:
            found.append(stretch + (False,))
        elif has_unlike_ends(poly, k, box, stretch) and sign_in(below, box + (stretch,)) != 0:
            found.append(stretch + (True,))
        elif is_narrow_beside(box, stretch):
            box, place, _ = open_cut(chain, box, k, stretch)
            left.append((place, stretch[1]))
            left.append((stretch[0], place))
        else:
            # Were the pieces alone made narrower it might never come to an end.
            box = narrower(chain, box)
            left.append(stretch)
    return box, found


def has_unlike_ends(poly, k, box, stretch):
    """Whether the signs at both ends of a stretch, which are there, are unlike."""
    return sign_placed(poly, k, stretch[0], box) != sign_placed(poly, k, stretch[1], box)
