"""The drawing of a signed row: its marks, its light lines and its rings (point 2.3)."""

from turnedrows.signed import check_signed


def marks(row):
    """The tuple of the marks at the spots of the drawing of a signed row."""
    check_signed(row)
    found = [0]
    for x in row:
        if x > 0:
            found.extend((2 * x - 1, 2 * x))
        else:
            found.extend((-2 * x, -2 * x - 1))
    found.append(2 * len(row) + 1)
    return tuple(found)


def light_lines(row):
    """The tuple of the pairs of spots (p, q), p < q, of the light lines 0 to n."""
    spots = {mark: spot for spot, mark in enumerate(marks(row))}
    pairs = [(spots[2 * k], spots[2 * k + 1]) for k in range(len(row) + 1)]
    return tuple([(min(pair), max(pair)) for pair in pairs])


def across(lines):
    """The dict that leads each spot to the other spot of its light line."""
    there = {}
    for p, q in lines:
        there[p] = q
        there[q] = p
    return there


def dark_across(spot):
    """The other spot of the dark line of a spot."""
    return spot + 1 if spot % 2 == 0 else spot - 1


def rings_along(lines):
    """The rings that light lines make together with the dark ones, each from its least spot on, in ascending order."""
    there = across(lines)
    found = []
    seen = {}
    for start in range(0, 2 * len(lines), 2):
        ring = []
        spot = start
        while spot not in seen:
            side = dark_across(spot)
            ring.extend((spot, side))
            seen[spot] = True
            seen[side] = True
            spot = there[side]
        if ring:
            found.append(tuple(ring))
    return tuple(found)


def drawing_rings(row):
    """The rings of the drawing of a signed row, each from its least spot along its dark line first."""
    return rings_along(light_lines(row))
