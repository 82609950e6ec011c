"""The moves of plain rows (point 1.2)."""

from turnedrows.errors import InvalidMove
from turnedrows.rows import check_row

NUMBERS = {"swap": 2, "next": 1, "take": 2, "flip": 2, "blocks": 4}


def is_move(n, move):
    """True if the move is one for rows of n pieces."""
    if len(move) == 0 or move[0] not in NUMBERS or len(move) != 1 + NUMBERS[move[0]]:
        return False
    word, *numbers = move
    if word == "blocks":
        i, j, k, l = numbers
        return 0 <= i < j <= k < l <= n
    if min(numbers) < 0 or max(numbers) >= n:
        return False
    if word == "next":
        return numbers[0] + 1 < n
    if word == "take":
        return numbers[0] != numbers[1]
    return numbers[0] < numbers[1]


def swapped(row, i, j):
    """The row with the pieces at two places exchanged."""
    pieces = list(row)
    pieces[i], pieces[j] = pieces[j], pieces[i]
    return tuple(pieces)


def taken(row, i, j):
    """The row with the piece at place i taken out and put in at place j."""
    rest = row[:i] + row[i + 1:]
    return rest[:j] + (row[i],) + rest[j:]


def flipped(row, i, j):
    """The row with the stretch of the places i to j in reverse order."""
    return row[:i] + row[i:j + 1][::-1] + row[j + 1:]


def exchanged(row, i, j, k, l):
    """The row with the stretch from i to before j and that from k to before l exchanged."""
    return row[:i] + row[k:l] + row[j:k] + row[i:j] + row[l:]


def moved(row, move):
    """The row that comes out of a plain row that is known to be one. InvalidMove if the move is none for it."""
    if not is_move(len(row), move):
        raise InvalidMove("this is no move for this row")
    word, *numbers = move
    if word == "next":
        return swapped(row, numbers[0], numbers[0] + 1)
    if word == "blocks":
        i, j, k, l = numbers
        return exchanged(row, i, j, k, l)
    i, j = numbers
    if word == "swap":
        return swapped(row, i, j)
    if word == "take":
        return taken(row, i, j)
    return flipped(row, i, j)


def do_move(row, move):
    """The row that comes out of a plain row. InvalidMove if the move is none for this row."""
    return moved(check_row(row), move)


def do_script(row, moves):
    """The row to which the moves lead, done one after the other. InvalidMove if one of them cannot be done."""
    check_row(row)
    for move in moves:
        row = moved(row, move)
    return row
