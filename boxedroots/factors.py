"""Factors of polynomials that are easily found."""

from boxedroots.common import common, content_beside, number_in, primitive
from boxedroots.judging import UNKNOWNS
from boxedroots.polys import degree, slope, unknown_poly


def easy_factor(poly):
    """A factor of a Poly, not 0, of a lesser degree, in which an unknown stands; None if none is found easily."""
    unknowns = [k for k in range(UNKNOWNS) if degree(poly, k) > 0]
    if sum([degree(poly, k) for k in unknowns]) < 2:
        return None
    for k in unknowns:
        if all([powers[k] > 0 for powers, _ in poly.terms]):
            return unknown_poly(k)
    for k in unknowns:
        if degree(poly, k) > 1:
            shared = primitive(common(poly, slope(poly, k)))
            if number_in(shared) is None:
                return shared
    if len(unknowns) > 1:
        for k in unknowns:
            shared = primitive(content_beside(poly, [k]))
            if number_in(shared) is None:
                return shared
    return None
