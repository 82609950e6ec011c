"""How many plain rows have a least number of moves to the sorted row (point 1.8)."""

from math import comb, factorial

from turnedrows.errors import OutOfRange

MOST_PIECES_COUNTED = 20


def rows_by_rings(m):
    """The list of the numbers c(m, k) of plain rows of m pieces with k rings, for k from 0 to m."""
    counts = [1]
    for size in range(m):
        # One more piece makes a ring of its own, or stands in an old ring behind one of the pieces so far.
        counts = [alone + size * joined for alone, joined in zip([0] + counts, counts + [0])]
    return counts


def by_swaps(n):
    """The list of the numbers of rows with the least number d of swaps, from d = 0 on."""
    return rows_by_rings(n)[::-1]


def by_nexts(n):
    """The list of the numbers of rows with the least number d of moves "next", from d = 0 on."""
    counts = [1]
    for size in range(1, n + 1):
        # One more piece, the greatest, stands before 0 to size - 1 others: so many pairs are in the wrong order.
        many = len(counts) + size - 1
        counts = [sum(counts[max(0, d - size + 1):d + 1]) for d in range(many)]
    return counts


def shapes(n, greatest):
    """All tuples of numbers from 1 to the greatest one that add up to n, in descending order each."""
    if n == 0:
        return [()]
    return [(part,) + rest for part in range(1, min(n, greatest) + 1) for rest in shapes(n - part, part)]


def fillings(shape):
    """In how many ways the cells of a shape are numbered so that numbers ascend to the right and downward."""
    hooks = 1
    for line in range(len(shape)):
        for column in range(shape[line]):
            below = [part for part in shape[line + 1:] if part > column]
            hooks = hooks * (shape[line] - column + len(below))
    return factorial(sum(shape)) // hooks


def rows_that_rise(n, longest):
    """The number of rows of n pieces of which this is the greatest number of places at which they ascend."""
    # Rows belong one by one to the pairs of fillings of a shape, whose first line is as long as the row rises.
    many = [fillings((longest,) + rest) for rest in shapes(n - longest, longest)]
    return sum([count * count for count in many])


def by_takes(n):
    """The list of the numbers of rows with the least number d of moves "take", from d = 0 on."""
    return [rows_that_rise(n, n - d) for d in range(max(n, 1))]


def by_blocks(n):
    """The list of the numbers of rows with the least number d of exchanges of blocks, from d = 0 on."""
    return [count // comb(n + 2, 2) for count in rows_by_rings(n + 2)[n + 1:0:-2]]


COUNTS = {"swap": by_swaps, "next": by_nexts, "take": by_takes, "blocks": by_blocks}


def how_many(kind, n, d):
    """How many plain rows of n pieces have the least number d of moves of the kind to the sorted row."""
    if kind not in COUNTS:
        raise OutOfRange("rows are counted for the kinds swap, next, take and blocks")
    if not 0 <= n <= MOST_PIECES_COUNTED:
        raise OutOfRange("rows are counted for 0 to 20 pieces")
    count = COUNTS[kind]
    counts = count(n)
    return counts[d] if 0 <= d < len(counts) else 0
