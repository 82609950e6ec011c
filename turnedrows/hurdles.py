"""The hurdles of the drawing of a signed row: bad parts whose spots stand side by side (point 2.5)."""

from turnedrows.drawing import light_lines
from turnedrows.parts import bad_among


def round_of(lines, bad):
    """The list of the bad parts to which the spots of all their lines belong, in ascending order of the spots."""
    owner = {spot: part for part in bad for k in part for spot in lines[k]}
    return [owner[spot] for spot in sorted(owner)]


def hurdles_among(lines, bad):
    """The tuple of those bad parts that are hurdles among these bad parts."""
    around = round_of(lines, bad)
    # At index 0 this looks back at the last spot of the round, which is the neighbor of the first one.
    begins = [part for at, part in enumerate(around) if part != around[at - 1]]
    return tuple([part for part in bad if begins.count(part) <= 1])


def great_among(lines, bad):
    """The tuple of those hurdles among the bad parts that keep another bad part from being a hurdle."""
    found = hurdles_among(lines, bad)
    great = []
    for hurdle in found:
        others = tuple([part for part in bad if part != hurdle])
        if any([part not in found for part in hurdles_among(lines, others)]):
            great.append(hurdle)
    return tuple(great)


def is_fortress_among(lines, bad):
    """True if the number of hurdles among the bad parts is odd and all of them are great."""
    many = len(hurdles_among(lines, bad))
    return many % 2 == 1 and len(great_among(lines, bad)) == many


def hurdles(row):
    """The tuple of the hurdles of the drawing of a signed row, in the order of its parts."""
    lines = light_lines(row)
    return hurdles_among(lines, bad_among(lines))


def great_hurdles(row):
    """Those hurdles of the drawing of a signed row that are great, in the same order."""
    lines = light_lines(row)
    return great_among(lines, bad_among(lines))


def is_fortress(row):
    """True if the drawing of a signed row is a fortress."""
    lines = light_lines(row)
    return is_fortress_among(lines, bad_among(lines))
