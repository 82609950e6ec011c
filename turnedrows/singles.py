"""The fewest cuts and joins that lead one body to another one (points 3.5 and 3.7)."""

from math import factorial

from turnedrows.bodies import check_same_pieces
from turnedrows.recuts import web


def joints_of_one(first, second):
    """The tuple of the joints that just one of the two bodies has, in ascending order."""
    check_same_pieces(first, second)
    return tuple(sorted(set(first.joints()) ^ set(second.joints())))


def least_singles(first, second):
    """The least number of single moves that lead the first body to the second one."""
    return len(joints_of_one(first, second))


def single_script(first, second):
    """A script of the least number of single moves that leads the first body to the second one."""
    check_same_pieces(first, second)
    # A joint can be made only when its ends are loose: so all cuts come first.
    cuts = [("cut", a, b) for a, b in first.joints() if second.partner(a) != b]
    joins = [("join", a, b) for a, b in second.joints() if first.partner(a) != b]
    return tuple(cuts + joins)


def rows_by_turns(m):
    """z(m): the number of plain rows of m pieces whose neighbors ascend and descend by turns, with an ascent first."""
    # Item k of the line counts the rows of one piece more that begin with the piece k + 1, with a descent first.
    # Behind the greatest piece such a row goes on with an ascent: so its last item is z.
    line = [1]
    for _ in range(m):
        sums = [0]
        for count in reversed(line):
            sums.append(sums[-1] + count)
        line = sums
    return line[-1]


def single_ways(first, second):
    """The number of least scripts of single moves."""
    loops, ways = web(first, second)
    number = factorial(least_singles(first, second))
    # No remainder is lost: d! can be divided by the factorials of the lines of all ways and rings together.
    for way in ways:
        lines = len(way) - 1
        number = number // factorial(lines) * rows_by_turns(lines)
    for ring in loops:
        # A ring of two ends is a joint of both bodies: nothing is done there.
        if len(ring) > 2:
            number = number // factorial(len(ring)) * (len(ring) // 2) * rows_by_turns(len(ring) - 1)
    return number
