"""The fewest turns that lead one signed row to another one (point 2.6)."""

from itertools import combinations

from turnedrows.drawing import light_lines, rings_along
from turnedrows.errors import OutOfRange
from turnedrows.hurdles import hurdles_among, is_fortress_among
from turnedrows.parts import bad_among
from turnedrows.signed import break_places, do_turn, relative_signed

MOST_TO_SCRIPT = 12


def turns_by_rings(lines):
    """The number of light lines minus that of the rings. No script of turns is shorter."""
    return len(lines) - len(rings_along(lines))


def turns_by_hurdles(lines):
    """How many turns more than by the rings are needed, because of the hurdles."""
    bad = bad_among(lines)
    many = len(hurdles_among(lines, bad))
    return many + 1 if is_fortress_among(lines, bad) else many


def turns_to_sorted(row):
    """The least number of turns that lead a signed row to the sorted row."""
    lines = light_lines(row)
    return turns_by_rings(lines) + turns_by_hurdles(lines)


def best_turn(row):
    """A turn of a row that is not sorted, after which the least number of turns is one less."""
    least = turns_to_sorted(row)
    # Some least script separates no neighbors that already stand right: its turns begin and end at breaks.
    places = break_places(row)
    moves = [("turn", i, k - 1) for i, k in combinations(places, 2)]
    at = 0
    while turns_to_sorted(do_turn(row, moves[at])) != least - 1:
        at += 1
    return moves[at]


def least_turns(first, second):
    """The least number of turns that lead the first row to the second one."""
    return turns_to_sorted(relative_signed(first, second))


def turn_script(first, second):
    """A script of the least number of turns that leads the first row to the second one, for at most 12 pieces."""
    row = relative_signed(first, second)
    if len(row) > MOST_TO_SCRIPT:
        raise OutOfRange("scripts of turns are told for at most 12 pieces")
    script = []
    while break_places(row):
        move = best_turn(row)
        script.append(move)
        row = do_turn(row, move)
    return tuple(script)
