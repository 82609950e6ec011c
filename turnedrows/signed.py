"""Signed rows and their turns (points 2.1, 2.2 and 2.8)."""

from turnedrows.errors import InvalidMove, InvalidRow
from turnedrows.rows import MOST_PIECES, check_same_length, sorted_row


def unsigned(row):
    """The tuple of the numbers of a row without their signs."""
    return tuple([abs(piece) for piece in row])


def check_signed(row):
    """The row itself. InvalidRow if it is no signed row."""
    # No number is shown in the message: Python refuses to write out huge ones.
    if len(row) > MOST_PIECES or tuple(sorted(unsigned(row))) != sorted_row(len(row)):
        raise InvalidRow("a signed row has each of the numbers 1 to n or its negative once, with n at most 40")
    return row


def turned(row, move):
    """The row that comes out of a signed row that is known to be one. InvalidMove if the move is none for it."""
    if len(move) != 3 or move[0] != "turn" or not 0 <= move[1] <= move[2] < len(row):
        raise InvalidMove("this is no turn for this row")
    _, i, j = move
    stretch = tuple([-piece for piece in row[i:j + 1][::-1]])
    return row[:i] + stretch + row[j + 1:]


def do_turn(row, move):
    """The row that comes out of a signed row. InvalidMove if the move is no turn for this row."""
    return turned(check_signed(row), move)


def do_turns(row, moves):
    """The row to which the turns lead, done one after the other. InvalidMove if one of them cannot be done."""
    check_signed(row)
    for move in moves:
        row = turned(row, move)
    return row


def relative_signed(first, second):
    """The signed row of the places, counted from 1, at which the pieces of the first row stand in the second one."""
    check_signed(first)
    check_signed(second)
    check_same_length(first, second)
    pieces = unsigned(second)
    places = [pieces.index(abs(piece)) for piece in first]
    return tuple([q + 1 if piece == second[q] else -(q + 1) for piece, q in zip(first, places)])


def break_places(row):
    """The list of the places before which a signed row has a break; the break behind its last piece has place n."""
    check_signed(row)
    full = (0,) + row + (len(row) + 1,)
    return [place for place in range(len(row) + 1) if full[place + 1] != full[place] + 1]


def breaks(row):
    """The number of neighbors x, y of a signed row, with 0 before it and n + 1 behind it, of which y is not x + 1."""
    return len(break_places(row))
