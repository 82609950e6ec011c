"""Plain rows, the relative row of two of them, and their rings (points 1.1, 1.3 and 1.4)."""

from turnedrows.errors import InvalidRow

MOST_PIECES = 40


def sorted_row(n):
    """The row of n pieces in ascending order."""
    return tuple(range(1, n + 1))


def check_row(row):
    """The row itself. InvalidRow if it is no plain row."""
    # No number is shown in the message: Python refuses to write out huge ones.
    if len(row) > MOST_PIECES or tuple(sorted(row)) != sorted_row(len(row)):
        raise InvalidRow("a plain row has each of the numbers 1 to n once, with n at most 40")
    return row


def check_same_length(first, second):
    """InvalidRow if the two rows differ in their number of pieces."""
    if len(first) != len(second):
        raise InvalidRow("the rows differ in their number of pieces")


def relative_row(first, second):
    """The row of the places, counted from 1, at which the pieces of the first row stand in the second one."""
    check_row(first)
    check_row(second)
    check_same_length(first, second)
    return tuple([second.index(piece) + 1 for piece in first])


def ring_from(leads, start):
    """The tuple of what is met on the way from the start until it is met again."""
    ring = [start]
    while leads[ring[-1]] != start:
        ring.append(leads[ring[-1]])
    return tuple(ring)


def rings_of(leads):
    """The rings of a dict in which each key leads to its value, each from its least key on, in ascending order."""
    found = []
    for start in sorted(leads):
        ring = ring_from(leads, start)
        if min(ring) == start:
            found.append(ring)
    return tuple(found)


def places_lead(row):
    """The dict in which each place of a plain row leads to the place that its number tells."""
    return {p: row[p] - 1 for p in range(len(row))}


def rings(row):
    """The rings of the places of a plain row."""
    return rings_of(places_lead(check_row(row)))


def blocks_lead(row):
    """The dict in which each of the numbers 1 to n + 1 leads to the next one of its block ring."""
    full = (0,) + row + (len(row) + 1,)
    return {i: full.index(full[i - 1] + 1) for i in range(1, len(full))}


def block_rings(row):
    """The block rings of the numbers 1 to n + 1 of a plain row of n pieces."""
    return rings_of(blocks_lead(check_row(row)))
