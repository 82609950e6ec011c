"""The numbers of the plain rows of n pieces, in ascending order of the rows (point 1.9)."""

from math import factorial

from turnedrows.errors import OutOfRange
from turnedrows.rows import MOST_PIECES, check_row, sorted_row


def row_number(row):
    """How many of the plain rows of as many pieces are less than the row."""
    check_row(row)
    number = 0
    for place in range(len(row)):
        lesser = [piece for piece in row[place + 1:] if piece < row[place]]
        number = number * (len(row) - place) + len(lesser)
    return number


def row_at(n, number):
    """The plain row of n pieces with a number. OutOfRange if there is none."""
    if not 0 <= n <= MOST_PIECES or not 0 <= number < factorial(n):
        raise OutOfRange("no row of so many pieces has this number")
    left = list(sorted_row(n))
    row = []
    while left:
        at, number = divmod(number, factorial(len(left) - 1))
        row.append(left.pop(at))
    return tuple(row)
