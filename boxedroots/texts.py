"""Polynomials and systems as texts."""

from boxedroots.figures import figures

NAMES = "xyzw"


def poly_text(poly):
    """The text of a Poly."""
    if not poly.terms:
        return "0"
    found = []
    for powers, count in reversed(poly.terms):
        sign = "-" if count < 0 else "+"
        if found:
            found.append(f" {sign} ")
        elif count < 0:
            found.append(sign)
        found.append(term_text(powers, abs(count)))
    return "".join(found)


def term_text(powers, size):
    """The text of a term without its sign."""
    factors = []
    for name, high in zip(NAMES, powers):
        if high > 0:
            factors.append(name if high == 1 else f"{name}^{figures(high)}")
    if size != 1 or not factors:
        factors.insert(0, figures(size))
    return " * ".join(factors)


def system_text(system):
    """The text of a System."""
    lines = [f"unknowns {system.many}"]
    lines.extend([f"{poly_text(poly)} = 0" for poly in system.equations])
    lines.extend([f"{poly_text(poly)} != 0" for poly in system.barred])
    return "".join([f"{line}\n" for line in lines])
