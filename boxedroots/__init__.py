"""All roots of systems of polynomials, each in a box of its own, and none left out."""
