"""Lines, that is lists of counts, that at x ** 0 first, reckoned with by remainders; and their factors by a prime."""


def trimmed(line):
    """The line without noughts at its end."""
    last = len(line)
    while last > 0 and line[last - 1] == 0:
        last -= 1
    return line[:last]


def line_modulo(line, number):
    """The line of the remainders by an integer."""
    return trimmed([count % number for count in line])


def difference_by(one, other, number):
    """The first line less the second one."""
    many = max(len(one), len(other))
    one, other = one + [0] * (many - len(one)), other + [0] * (many - len(other))
    return line_modulo([here - there for here, there in zip(one, other)], number)


def product_by(one, other, number):
    """The product of two lines."""
    if not one or not other:
        return []
    found = [0] * (len(one) + len(other) - 1)
    for at, count in enumerate(one):
        if count != 0:
            for place, many in enumerate(other):
                found[at + place] += count * many
    return line_modulo(found, number)


def division_by(one, other, number):
    """The pair of the quotient and the remainder of a line by another one, whose last count is 1."""
    rest = list(one)
    last = len(other) - 1
    found = [0] * max(0, len(one) - last)
    for at in range(len(one) - 1 - last, -1, -1):
        count = rest[at + last] % number
        found[at] = count
        if count != 0:
            for place, many in enumerate(other):
                rest[at + place] -= count * many
    return trimmed(found), line_modulo(rest[:last], number)


def monic_by(line, prime):
    """The line, which is not 0, times what makes its last count 1."""
    front = inverse_by(line[-1], prime)
    return [count * front % prime for count in line]


def inverse_by(number, prime):
    """The integer that comes to 1, as a remainder by a prime, if it is multiplied by another one."""
    one, other, first, second = prime, number % prime, 0, 1
    while other != 0:
        many = one // other
        one, other, first, second = other, one - many * other, second, first - many * second
    return first % prime


def common_by(one, other, prime):
    """The greatest common divisor of two lines, not both 0, with 1 as its last count."""
    while other:
        other = monic_by(other, prime)
        one, other = other, division_by(one, other, prime)[1]
    return monic_by(one, prime)


def cofactors_by(one, other, prime):
    """The pair of lines by which two lines without a common divisor come to 1."""
    first, second = [1], []
    third, fourth = [], [1]
    while other:
        front = inverse_by(other[-1], prime)
        many, rest = division_by(one, monic_by(other, prime), prime)
        many = [count * front % prime for count in many]
        one, other = other, rest
        first, third = third, difference_by(first, product_by(many, third, prime), prime)
        second, fourth = fourth, difference_by(second, product_by(many, fourth, prime), prime)
    front = inverse_by(one[-1], prime)
    return [count * front % prime for count in first], [count * front % prime for count in second]


def slope_by(line, number):
    """The slope of a line."""
    return line_modulo([at * count for at, count in enumerate(line)][1:], number)


def fixed_lines(line, prime):
    """The lines, of which all others are sums, that are their own powers by a prime, as remainders by a line."""
    last = len(line) - 1
    rows, here = [], [1]
    step = [0] * prime + [1]
    for at in range(last):
        row = here + [0] * (last - len(here))
        row[at] -= 1
        rows.append(row)
        here = division_by(product_by(here, step, prime), line, prime)[1]
    return left_over(rows, prime)


def left_over(rows, prime):
    """The sums of rows that come to 0, each as the list of how often each row is taken; all others are their sums."""
    many = len(rows)
    done, found = [], []
    for at, row in enumerate(rows):
        row = [count % prime for count in row] + [1 if place == at else 0 for place in range(many)]
        for place, other in done:
            if row[place] != 0:
                by = row[place]
                row = [(here - by * there) % prime for here, there in zip(row, other)]
        first = [place for place in range(many) if row[place] != 0]
        if first:
            front = inverse_by(row[first[0]], prime)
            done.append((first[0], [count * front % prime for count in row]))
        else:
            found.append(trimmed(row[many:]))
    return found


def factors_by(line, prime, fixed):
    """The factors by a prime of a line without double ones, with 1 as last counts; fixed is what fixed_lines tells."""
    found = [line]
    for part in fixed:
        if len(part) > 1 and len(found) < len(fixed):
            rest, found = found, []
            for factor in rest:
                found.extend(parts_by(factor, part, prime))
    return found


def parts_by(factor, part, prime):
    """The parts of a factor at which a line comes to one remainder each."""
    found = []
    for number in range(prime):
        shared = common_by(factor, difference_by(part, [number], prime), prime)
        if len(shared) > 1:
            found.append(shared)
    return found
