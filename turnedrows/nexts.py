"""The fewest exchanges of neighbors that lead one plain row to another one (points 1.5 and 1.6)."""

from turnedrows.errors import OutOfRange
from turnedrows.moves import do_move
from turnedrows.rows import relative_row, sorted_row

MOST_TO_COUNT = 7


def wrong_pairs(row):
    """The tuple of the pairs of places (p, q), p < q, of which the first one has the greater number."""
    n = len(row)
    return tuple([(p, q) for p in range(n) for q in range(p + 1, n) if row[p] > row[q]])


def least_nexts(first, second):
    """The least number of moves "next" that lead the first row to the second one."""
    return len(wrong_pairs(relative_row(first, second)))


def next_script(first, second):
    """A script of the least number of moves "next" that leads the first row to the second one."""
    row = list(relative_row(first, second))
    script = []
    for end in range(1, len(row)):
        place = end
        while place > 0 and row[place - 1] > row[place]:
            place -= 1
            row[place], row[place + 1] = row[place + 1], row[place]
            script.append(("next", place))
    return tuple(script)


def one_move_nearer(ways):
    """The rows that are one move "next" nearer to the sorted row, each with the number of ways that lead there."""
    nearer = {}
    for row in ways:
        for i in range(len(row) - 1):
            if row[i] > row[i + 1]:
                after = do_move(row, ("next", i))
                nearer[after] = nearer.get(after, 0) + ways[row]
    return nearer


def next_ways(first, second):
    """The number of least scripts of moves "next". OutOfRange for more than 7 pieces."""
    row = relative_row(first, second)
    if len(row) > MOST_TO_COUNT:
        raise OutOfRange("the least scripts of moves next are counted for at most 7 pieces")
    ways = {row: 1}
    for _ in wrong_pairs(row):
        ways = one_move_nearer(ways)
    return ways[sorted_row(len(row))]
