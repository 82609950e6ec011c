"""The fewest exchanges of blocks that lead one plain row to another one (point 1.5)."""

from turnedrows.moves import do_move
from turnedrows.rows import block_rings, relative_row, sorted_row


def least_blocks(first, second):
    """The least number of exchanges of blocks that lead the first row to the second one."""
    row = relative_row(first, second)
    return (len(row) + 1 - len(block_rings(row))) // 2


def best_exchange(row):
    """A move "blocks" of a row that is not sorted, after which it has two block rings more."""
    full = row + (len(row) + 1,)
    i = min([place for place in range(len(row)) if row[place] != place + 1])
    k = full.index(i + 1)
    # The greatest number before the piece i + 1 has its follower behind that piece. So one exchange brings both
    # pairs together: the piece i + 1 comes behind i, and the follower behind that greatest number.
    greatest = max(full[i:k])
    return ("blocks", i, full.index(greatest) + 1, k, full.index(greatest + 1))


def block_script(first, second):
    """A script of the least number of exchanges of blocks that leads the first row to the second one."""
    row = relative_row(first, second)
    script = []
    while row != sorted_row(len(row)):
        move = best_exchange(row)
        script.append(move)
        row = do_move(row, move)
    return tuple(script)
