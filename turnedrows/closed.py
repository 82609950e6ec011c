"""Closed rows: signed rows that are read around (point 2.7)."""

from turnedrows.errors import OutOfRange
from turnedrows.rows import check_same_length
from turnedrows.signed import check_signed
from turnedrows.turns import least_turns, turn_script

MOST_TO_SCRIPT_CLOSED = 13


def opened(row):
    """The reading of a closed row that begins with its greatest piece, with the sign plus; () for ()."""
    check_signed(row)
    n = len(row)
    if n == 0:
        return row
    if n not in row:
        row = tuple([-piece for piece in row[::-1]])
    start = row.index(n)
    return row[start:] + row[:start]


def opened_both(first, second):
    """The pair of the opened readings of two closed rows with the same number of pieces."""
    one = opened(first)
    other = opened(second)
    check_same_length(one, other)
    return one, other


def is_same_closed(first, second):
    """True if the two signed rows are readings of the same closed row."""
    one, other = opened_both(first, second)
    return one == other


def least_closed_turns(first, second):
    """The least number of turns that lead the first closed row to the second one."""
    one, other = opened_both(first, second)
    return least_turns(one[1:], other[1:])


def closed_turn_script(first, second):
    """A script of the least number of turns that leads the one opened reading to the other, for at most 13 pieces."""
    one, other = opened_both(first, second)
    if len(one) > MOST_TO_SCRIPT_CLOSED:
        raise OutOfRange("scripts of turns of closed rows are told for at most 13 pieces")
    return tuple([("turn", i + 1, j + 1) for _, i, j in turn_script(one[1:], other[1:])])
