"""The fewest moves "take" that lead one plain row to another one (point 1.5)."""

from turnedrows.moves import do_move
from turnedrows.rows import check_row, relative_row


def heights(row):
    """For each place the greatest number of places, the last of them this one, at which the numbers ascend."""
    found = []
    for place in range(len(row)):
        lower = [found[p] for p in range(place) if row[p] < row[place]]
        found.append(1 + max(lower, default=0))
    return found


def rising(row):
    """The greatest number of places of a plain row, ascending, at which its numbers ascend."""
    check_row(row)
    height = heights(row)
    wanted = max(height, default=0)
    above = len(row) + 1
    places = []
    for place in reversed(range(len(row))):
        if height[place] == wanted and row[place] < above:
            places.append(place)
            above = row[place]
            wanted -= 1
    return tuple(places[::-1])


def falls(row):
    """As many tuples of places as rising has places, each place once; in each the numbers descend."""
    check_row(row)
    height = heights(row)
    found = [[] for _ in range(max(height, default=0))]
    for place in range(len(row)):
        # Of two places of one height the later one has the lesser number: with the greater one it would be higher.
        found[height[place] - 1].append(place)
    return tuple([tuple(fall) for fall in found])


def least_takes(first, second):
    """The least number of moves "take" that lead the first row to the second one."""
    row = relative_row(first, second)
    return len(row) - len(rising(row))


def place_behind(row, i, lesser):
    """Where the piece at place i stands when it is taken out and put in behind a lesser one, or first behind 0."""
    if lesser == 0:
        return 0
    place = row.index(lesser)
    return place if i < place else place + 1


def take_script(first, second):
    """A script of the least number of moves "take" that leads the first row to the second one."""
    row = relative_row(first, second)
    kept = [row[place] for place in rising(row)]
    script = []
    for piece in range(1, len(row) + 1):
        if piece not in kept:
            # All lesser pieces stand in order by now, the piece before this one as the last of them.
            i = row.index(piece)
            move = ("take", i, place_behind(row, i, piece - 1))
            script.append(move)
            row = do_move(row, move)
    return tuple(script)
