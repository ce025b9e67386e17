"""Lists that are kept ascending, so that the least and the greatest thing in them stand at an end."""

# The heaps of the library are not used: beside them `==` may not reach what changes a list or an object, and for
# numbers and roots it reckons with polynomials, which does.


def put_in(row, thing):
    """Put a thing into an ascending list, at its place."""
    low, high = 0, len(row)
    while low < high:
        middle = (low + high) >> 1
        if row[middle] < thing:
            low = middle + 1
        else:
            high = middle
    row.insert(low, thing)
