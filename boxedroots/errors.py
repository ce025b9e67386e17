"""The errors of the package: each keeps what it was made with."""


class RootError(ValueError):
    """What all errors of the package derive from."""


class BadPoly(RootError):
    """What was passed is no tuple of terms; index tells the first wrong one, or is -1."""

    def __init__(self, index):
        self.index = index


class BadSystem(RootError):
    """What was passed is no system; part tells which part of it is wrong."""

    def __init__(self, part):
        self.part = part


class NoCover(RootError):
    """What was passed is no cover; number tells the first wrong step, or is -1."""

    def __init__(self, number):
        self.number = number


class BadNumber(RootError):
    """What was passed tells no real number; part tells what is wrong."""

    def __init__(self, part):
        self.part = part


class NoWish(RootError):
    """What was passed is no tuple of wishes; index tells the first wrong one, or is -1."""

    def __init__(self, index):
        self.index = index


class BadText(RootError):
    """A text is no polynomial; at tells the place of the fault, or what it is."""

    def __init__(self, at):
        self.at = at


class BadLine(RootError):
    """A text is no system; number tells the first wrong line, counted from 1."""

    def __init__(self, number):
        self.number = number


class NoName(RootError):
    """There is nothing under this name."""

    def __init__(self, name):
        self.name = name


class TooMany(RootError):
    """There would be more than so many."""

    def __init__(self, most):
        self.most = most


class NoInteger(RootError):
    """An integer was to be passed, within the bounds that are told."""


class NoUnknown(RootError):
    """The number of an unknown was to be passed."""


class NoNumber(RootError):
    """A number was to be passed, within the bounds that are told."""


class NoPoint(RootError):
    """A tuple of so many fractions was to be passed."""


class NoDivisor(RootError):
    """A polynomial in which the unknown stands was to be passed."""


class NoChain(RootError):
    """A chain of the kind that is told was to be passed."""


class NoPolynomial(RootError):
    """A polynomial in the unknowns that are told was to be passed."""


class Unlike(RootError):
    """Two systems have not as many unknowns."""


class NoBox(RootError):
    """A box was to be passed."""


class Double(RootError):
    """The polynomial has a double root, or no unknown."""


class NoBoxing(RootError):
    """A boxing was to be passed."""


class NoFraction(RootError):
    """A fraction was to be passed."""


class NoWidth(RootError):
    """A fraction above 0 was to be passed."""


class ByNought(RootError):
    """A number was to be divided by 0."""


class Below(RootError):
    """An even root of a number below 0 was asked for."""


class Endless(RootError):
    """There is no end of the roots."""


class NoLine(RootError):
    """What was told to a desk is no line of a known form."""


class NoPower(RootError):
    """A system has from 1 to 3 unknowns."""
