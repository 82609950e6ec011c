"""What lies on the shortest roads from one row or body to another one."""

from turnedrows.closed import opened
from turnedrows.cuts import do_cut
from turnedrows.fewest import least, script
from turnedrows.moves import do_move
from turnedrows.rows import relative_row
from turnedrows.signed import do_turn


def next_stage(kind, here, move):
    """The row or body that comes out of a move of a kind."""
    if kind in ("recut", "single"):
        return do_cut(here, move)
    if kind in ("turn", "closed"):
        return do_turn(here, move)
    return do_move(here, move)


def stages(kind, first, second):
    """All rows or bodies that a least script passes, from the first to the second one; opened readings for "closed"."""
    moves = script(kind, first, second)
    here = opened(first) if kind == "closed" else first
    found = [here]
    for move in moves:
        here = next_stage(kind, here, move)
        found.append(here)
    return tuple(found)


def is_between(kind, first, middle, second):
    """True if a script of the least number of moves leads from the first to the second one by way of the middle one."""
    if kind == "flip":
        # Flips have a bound: the second row is looked at ahead of it, too.
        relative_row(middle, second)
    return least(kind, first, middle) + least(kind, middle, second) == least(kind, first, second)
