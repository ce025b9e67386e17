"""The tests' own judge of papers and covers, by the words of 3.1 and 4.1, multiplying out by itself."""

from boxedroots.polys import Poly


def product_of(one, other):
    """The dict of the product of two dicts from powers to counts."""
    found = {}
    for first, count in one.items():
        for second, many in other.items():
            powers = tuple([a + b for a, b in zip(first, second)])
            found[powers] = found.get(powers, 0) + count * many
    return {powers: count for powers, count in found.items() if count != 0}


def sum_of(one, other):
    found = dict(one)
    for powers, count in other.items():
        found[powers] = found.get(powers, 0) + count
    return {powers: count for powers, count in found.items() if count != 0}


def products_together(counts, polys):
    found = {}
    for count, poly in zip(counts, polys):
        found = sum_of(found, product_of(dict(count.terms), dict(poly.terms)))
    return found


def product_with(barred, powers, poly):
    found = dict(poly.terms)
    for other, high in zip(barred, powers):
        for _ in range(high):
            found = product_of(found, dict(other.terms))
    return found


def top_of(poly):
    return max([k for powers, _ in poly.terms for k in range(4) if powers[k] > 0], default=None)


def degree_of(poly, k):
    return max([powers[k] for powers, _ in poly.terms], default=0)


def head_counts(poly, k):
    high = degree_of(poly, k)
    return {p[:k] + (0,) + p[k + 1:]: c for p, c in poly.terms if p[k] == high}


def slope_counts(poly, k):
    return {p[:k] + (p[k] - 1,) + p[k + 1:]: c * p[k] for p, c in poly.terms if p[k] > 0}


def are_multiples(whole, found):
    """Whether the second dict is an integer other than 0 times the first."""
    if not whole or not found:
        return not whole and not found
    if set(whole) != set(found):
        return False
    at = min(whole)
    many = found[at] // whole[at]
    return many != 0 and all(found[p] == many * whole[p] for p in whole)


def within(many, poly):
    return type(poly) is Poly and all(powers[k] == 0 for powers, _ in poly.terms for k in range(many, 4))


def is_right_paper(many, chain, counts, paper, most=None):
    """Whether a paper is one for the polynomial of a dict, with counts 0 from the given one of the chain on."""
    if type(paper) is not tuple or len(paper) != 3 or type(paper[1]) is not tuple or len(paper[1]) != len(chain):
        return False
    factor, row, rest = paper
    if not all(within(many, poly) for poly in (factor, rest) + row) or not rest.terms:
        return False
    if any(degree_of(rest, top_of(poly)) > 0 for poly in chain):
        return False
    if most is not None and any(count.terms for count in row[most:]):
        return False
    return product_of(dict(factor.terms), counts) == sum_of(dict(rest.terms), products_together(row, chain))


def needed_counts(chain):
    """The dicts of the leading counts and slopes, each with where the counts of its paper end."""
    found = []
    for at, poly in enumerate(chain):
        k = top_of(poly)
        found.append((head_counts(poly, k), at))
        found.append((slope_counts(poly, k), None))
    return found


def is_right_leaf(many, equations, barred, papers):
    tops = [top_of(poly) for poly in equations]
    if None in tops or len(set(tops)) != len(tops):
        return False
    chain = tuple(sorted(equations, key=top_of))
    wanted = needed_counts(chain) + [(dict(poly.terms), None) for poly in barred]
    if type(papers) is not tuple or len(papers) != len(wanted):
        return False
    return all(is_right_paper(many, chain, c, paper, most) for (c, most), paper in zip(wanted, papers))


def is_identity(many, barred, powers, poly, counts, equations):
    if type(powers) is not tuple or len(powers) != len(barred):
        return False
    if any(type(high) is not int or not 0 <= high <= 1000 for high in powers):
        return False
    if type(counts) is not tuple or len(counts) != len(equations) or not all(within(many, c) for c in counts):
        return False
    return are_multiples(product_with(barred, powers, poly), products_together(counts, equations))


def judged(system, steps):
    """The pair of the first wrong step, or None, and the list of the leaves (equations, barred) as sets of terms."""
    states = [(list(system.equations), list(system.barred))]
    found = []
    many = system.many
    one = Poly((((0, 0, 0, 0), 1),))
    for number, step in enumerate(steps):
        if not states:
            return number, []
        equations, barred = states.pop()
        kind = step[0]
        right = False
        if kind == "part":
            right = len(step) == 2 and within(many, step[1])
            states += [(equations, barred + [step[1]]), (equations + [step[1]], barred)]
        elif kind == "add":
            right = within(many, step[1]) and is_identity(many, barred, step[2], step[1], step[3], equations)
            states.append((equations + [step[1]], barred))
        elif kind == "drop":
            if type(step[1]) is not int or not 0 <= step[1] < len(equations):
                return number, []
            others = equations[:step[1]] + equations[step[1] + 1:]
            right = is_identity(many, barred, step[2], equations[step[1]], step[3], others)
            states.append((others, barred))
        elif kind == "none":
            right = is_identity(many, barred, step[1], one, step[2], equations)
        elif kind == "chain":
            right = is_right_leaf(many, equations, barred, step[1])
            found.append((tuple(sorted(equations, key=lambda poly: top_of(poly) or 0)), tuple(barred)))
        if not right:
            return number, []
    return (len(steps) if states else None), found
