"""The parts of the drawing of a signed row: light lines that are connected by crossings (point 2.4)."""

from turnedrows.drawing import light_lines


def is_oriented(line):
    """True if the sum of the two spots of a light line is even."""
    p, q = line
    return (p + q) % 2 == 0


def crosses(line, other):
    """True if exactly one spot of the other line lies between the two spots of the line."""
    p, q = line
    r, s = other
    return (p < r < q) != (p < s < q)


def part_with(lines, start):
    """The ascending tuple of the numbers of the lines that crossings connect with the line of this number."""
    part = {start: True}
    waiting = [start]
    while waiting:
        line = lines[waiting.pop()]
        for k in range(len(lines)):
            if k not in part and crosses(line, lines[k]):
                part[k] = True
                waiting.append(k)
    return tuple(sorted(part))


def parts_among(lines):
    """The tuple of the parts of light lines, in ascending order."""
    found = []
    seen = {}
    for k in range(len(lines)):
        if k not in seen:
            part = part_with(lines, k)
            found.append(part)
            seen.update({number: True for number in part})
    return tuple(found)


def is_bad(lines, part):
    """True if none of the lines of a part is oriented, unless it is a single line along a dark one."""
    if any([is_oriented(lines[k]) for k in part]):
        return False
    p, q = lines[part[0]]
    return len(part) > 1 or p % 2 == 1 or q != p + 1


def bad_among(lines):
    """The tuple of the bad parts of light lines, in ascending order."""
    return tuple([part for part in parts_among(lines) if is_bad(lines, part)])


def parts(row):
    """The tuple of the parts of the drawing of a signed row, each an ascending tuple of numbers of light lines."""
    return parts_among(light_lines(row))


def bad_parts(row):
    """Those parts of the drawing of a signed row that are bad, in the same order."""
    return bad_among(light_lines(row))
