"""Boxings of chains: nested pieces, judged by signs, that show all real roots, each in a box of its own."""

from boxedroots.bernstein import bounds
from boxedroots.chains import is_chain, is_regular
from boxedroots.errors import NoBoxing, NoChain
from boxedroots.judging import is_bound
from boxedroots.narrowing import sign_placed
from boxedroots.piecing import boxing_over
from boxedroots.polys import slope
from boxedroots.ratios import is_stretch
from boxedroots.spreading import sign_in

MOST_POLYS = 3


def boxing_fault(chain, thing):
    """None for a boxing of a chain, else the tuple that leads to the first thing that is wrong."""
    if not is_finite_chain(chain):
        raise NoChain()
    return fault_over(chain, (), thing)


def is_boxing(chain, thing):
    """Whether a thing is a boxing of a chain."""
    return boxing_fault(chain, thing) is None


def boxes(chain, boxing):
    """The ascending list of the boxes that a boxing of a chain tells."""
    if boxing_fault(chain, boxing) is not None:
        raise NoBoxing()
    return inner_boxes((), boxing)


def boxing_of(chain):
    """A boxing of a regular finite chain."""
    if not is_finite_chain(chain) or not is_regular(len(chain), chain):
        raise NoChain()
    return boxing_over(chain, ())[1]


def is_finite_chain(thing):
    """Whether a thing is a finite chain of one to three Polys."""
    return isinstance(thing, tuple) and 1 <= len(thing) <= MOST_POLYS and is_chain(len(thing), thing)


def inner_boxes(box, boxing):
    """The list of the innermost boxes of what is told over a box."""
    if not boxing:
        return [box]
    found = []
    for low, high, below in boxing[1]:
        if below is not None:
            found.extend(inner_boxes(box + ((low, high),), below))
    return found


def fault_over(chain, box, thing):
    """As boxing_fault, over a box of stretches for the first of the chain."""
    k = len(box)
    if k == len(chain):
        return None if isinstance(thing, tuple) and not thing else ("pieces",)
    if not isinstance(thing, tuple) or len(thing) != 2:
        return ("pieces",)
    bound, pieces = thing
    if not is_bound(bound) or not bounds(chain[k], k, box, bound):
        return ("bound",)
    if not are_pieces(bound, pieces):
        return ("pieces",)
    for number, (low, high, below) in enumerate(pieces):
        if below is None:
            if sign_in(chain[k], box + ((low, high),)) == 0:
                return (number, "sign")
        else:
            if not crosses(chain[k], k, box, (low, high)):
                return (number, "sign")
            fault = fault_over(chain, box + ((low, high),), below)
            if fault is not None:
                return (number,) + fault
    return None


def are_pieces(bound, thing):
    """Whether a thing is a tuple of triples (low, high, below) that go from -bound to bound."""
    if not isinstance(thing, tuple) or not thing:
        return False
    at = (-bound, 1)
    for piece in thing:
        if not isinstance(piece, tuple) or len(piece) != 3 or not is_stretch(piece[:2]) or piece[0] != at:
            return False
        at = piece[1]
    return at == (bound, 1)


def crosses(poly, k, box, stretch):
    """Whether a Poly of the top k goes from one sign to the other over a box and a stretch, its slope keeping one."""
    ends = [sign_placed(poly, k, place, box) for place in stretch]
    return sorted(ends) == [-1, 1] and sign_in(slope(poly, k), box + (stretch,)) != 0
