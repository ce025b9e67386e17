"""Boxes about single roots of a chain, which are made narrower.

Such a box has a stretch for each of the first Polys of a regular finite chain, and the signs of each one at the ends
of its stretch, over the stretches ahead, are unlike: it is 0 just once between them.
"""

from boxedroots.lines import cuts_for, line_of, sign_at
from boxedroots.polys import degree
from boxedroots.ratios import between, is_less, length
from boxedroots.spreading import placed, sign_in

# So many places are tried before the stretches ahead are made narrower.
PATIENCE = 3


def sign_placed(poly, k, place, box):
    """The sign that a Poly of the top k has over a box with a fraction in the place of its top, 0 if there is none."""
    return sign_at(line_of(poly), place) if k == 0 else sign_in(placed(poly, k, place), box)


def open_cut(chain, box, k, stretch):
    """The triple (box, place, sign) with a place within a stretch of the unknown k, at which the sign is not 0.

    The box, of the stretches ahead, has been made narrower where this is called for.
    """
    cuts = cuts_for(degree(chain[k], k))
    tried = 0
    while True:
        over, under = cuts[tried % len(cuts)]
        place = between(stretch[0], stretch[1], over, under)
        sign = sign_placed(chain[k], k, place, box)
        if sign != 0:
            return box, place, sign
        tried += 1
        if tried % PATIENCE == 0:
            box = narrower(chain, box)


def narrower(chain, box):
    """The box with each stretch made narrower."""
    for k in range(len(box)):
        box = narrower_at(chain, box, k)
    return box


def narrower_at(chain, box, k):
    """The box with the stretch of the unknown k at most three quarters as long; those ahead may be narrower, too."""
    low, high = box[k]
    ahead, place, sign = open_cut(chain, box[:k], k, box[k])
    half = (place, high) if sign_placed(chain[k], k, low, ahead) == sign else (low, place)
    return ahead + (half,) + box[k + 1:]


def narrow_to(chain, box, width):
    """The box with no stretch longer than a width."""
    for k in range(len(box)):
        while is_less(width, length(box[k])):
            box = narrower_at(chain, box, k)
    return box


def root_sign(chain, box, poly):
    """The sign of a Poly, which is not 0 there, at the root in a box."""
    while True:
        sign = sign_in(poly, box)
        if sign != 0:
            return sign
        box = narrower(chain, box)


def is_narrow_beside(box, stretch):
    """Whether no stretch of a box is longer than another one."""
    return not any([is_less(length(stretch), length(part)) for part in box])
