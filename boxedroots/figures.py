"""Integers written in figures, however great: Python itself writes none that has too many."""

# What is written at once has fewer figures than Python's own limit.
CHUNK = 500


def figures(number):
    """The figures of an integer, with - ahead of one below 0."""
    rest = abs(number)
    base = 1
    for _ in range(CHUNK):
        base = base * 10
    parts = []
    while rest >= base:
        rest, last = divmod(rest, base)
        parts.append(str(last).zfill(CHUNK))
    parts.append(str(rest))
    parts.reverse()
    return ("-" if number < 0 else "") + "".join(parts)


def written_out(number, many):
    """An integer, divided by 10 so many times, with so many figures behind the point."""
    text = figures(abs(number)).zfill(many + 1)
    return ("-" if number < 0 else "") + text[:len(text) - many] + "." + text[len(text) - many:]
