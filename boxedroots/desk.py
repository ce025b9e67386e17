"""A desk: systems under names, and what is told of them, line by line."""

from boxedroots.errors import Endless, NoLine, NoName, NoNumber, NoPolynomial, NoPower
from boxedroots.figures import figures, written_out
from boxedroots.forms import PUT, parts_of
from boxedroots.numbers import floor_of
from boxedroots.polys import stands_in
from boxedroots.roots import many_real, roots
from boxedroots.systems import MOST_POLYS, MOST_UNKNOWNS, System
from boxedroots.telling import many_roots, same_roots, vanishes
from boxedroots.texts import system_text

PLACES = 6
DONE = "ok"
FULL = "full"
ENDLESS = "endless"


class Desk:
    """Systems under names, and their roots as far as they have been asked for: lists, None if there is no end."""

    def __init__(self):
        self.systems = {}
        self.found = {}

    def tell(self, line):
        """Do a line; the string that answers it."""
        told = parts_of(line)
        if told is None:
            raise NoLine()
        word, parts = told
        if word == "let":
            return self.begin(parts[0], parts[1])
        for name in parts[:2] if word == "same" else parts[:1]:
            if name not in self.systems:
                raise NoName(name)
        if word == PUT:
            return self.put(parts[0], parts[1], parts[2])
        if word == "drop":
            self.systems.pop(parts[0])
            self.found.pop(parts[0], None)
            return DONE
        if word in ("root", "sign"):
            return self.told_of_root(parts)
        if word == "same":
            return yes_or_no(same_roots(self.systems[parts[0]], self.systems[parts[1]]))
        return told_of_one(word, self.systems[parts[0]], parts[1:])

    def begin(self, name, many):
        """Begin a system in so many unknowns under a name."""
        if not 1 <= many <= MOST_UNKNOWNS:
            raise NoPower()
        self.systems[name] = System(many, (), ())
        self.found.pop(name, None)
        return DONE

    def put(self, name, poly, is_barred):
        """Put an equation or a barred Poly into a system."""
        system = self.systems[name]
        if not stands_in(system.many, poly):
            raise NoPolynomial()
        if len(system.barred if is_barred else system.equations) >= MOST_POLYS:
            return FULL
        if is_barred:
            self.systems[name] = System(system.many, system.equations, system.barred + (poly,))
        else:
            self.systems[name] = System(system.many, system.equations + (poly,), system.barred)
        self.found.pop(name, None)
        return DONE

    def told_of_root(self, parts):
        """What is told of a root: its values, or, where a Poly is told, the sign of this there."""
        name, number = parts[0], parts[1]
        if name not in self.found:
            self.found[name] = roots_or_none(self.systems[name])
        if self.found[name] is None or number >= len(self.found[name]):
            raise NoNumber()
        root, many = self.found[name][number], self.systems[name].many
        if len(parts) > 2:
            return figures(root.sign_at(parts[2]))
        return " ".join([written_out(floor_of(root.value(k), PLACES), PLACES) for k in range(many)])


def roots_or_none(system):
    """The list of the real roots of a system, None if there is no end of its roots."""
    try:
        return roots(system)
    except Endless:
        return None


def told_of_one(word, system, parts):
    """What is told of one system: its text, how many roots it has, or whether a Poly is 0 at all of them."""
    if word == "show":
        lines = system_text(system).split("\n")
        return "; ".join(lines[:-1])
    if word == "count":
        many = many_roots(system)
        return ENDLESS if many is None else figures(many)
    if word == "real":
        try:
            return figures(many_real(system))
        except Endless:
            return ENDLESS
    return yes_or_no(vanishes(system, parts[0]))


def yes_or_no(flag):
    """The word for a flag."""
    return "yes" if flag else "no"
