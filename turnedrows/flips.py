"""The fewest flips that lead one plain row to another one (point 1.7)."""

from turnedrows.drawing import light_lines
from turnedrows.errors import OutOfRange
from turnedrows.rows import relative_row, sorted_row
from turnedrows.turns import turn_script, turns_by_rings, turns_to_sorted

MOST_TO_FLIP = 7


def signings(row):
    """All signed rows that come from a plain row by giving each number a sign."""
    found = [()]
    for piece in row:
        found = [signed + (number,) for signed in found for number in (piece, -piece)]
    return found


def nearest_signing(first, second):
    """The signing of the relative row that the fewest turns lead to the sorted row. OutOfRange for over 7 pieces."""
    row = relative_row(first, second)
    if len(row) > MOST_TO_FLIP:
        raise OutOfRange("flips are told for at most 7 pieces")
    nearest = row
    least = turns_to_sorted(row)
    for signed in signings(row):
        # The rings are told quickly, and the hurdles only add to the turns that they ask for.
        if turns_by_rings(light_lines(signed)) < least and turns_to_sorted(signed) < least:
            nearest = signed
            least = turns_to_sorted(signed)
    return nearest


def least_flips(first, second):
    """The least number of flips that lead the first row to the second one. OutOfRange for more than 7 pieces."""
    return turns_to_sorted(nearest_signing(first, second))


def flip_script(first, second):
    """A script of the least number of flips that leads the first row to the second one, for at most 7 pieces."""
    nearest = nearest_signing(first, second)
    # None of these turns is of a single piece: without it another signing would be nearer.
    return tuple([("flip", i, j) for _, i, j in turn_script(nearest, sorted_row(len(nearest)))])
