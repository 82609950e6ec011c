"""The points 2.3 to 2.5 read word by word, and rows whose drawings have something special."""

from tests.helpers import FORTY, NEGATIVE, some_rows, some_signed


def nested(base):
    """Five pieces from base + 1 on, without a minus: a bad part, and in its midst another one."""
    return tuple([base + x for x in (2, 4, 3, 5, 1)])


def with_nested(many):
    """A row of 6 many - 1 pieces: so many times a bad part with another one in its midst, one behind the other."""
    row = ()
    for k in range(many):
        row = row + nested(6 * k) + (6 * k + 6,)
    return row[:-1]


def side_by_side(many):
    """A row of 3 many - 1 pieces with so many bad parts, one behind the other."""
    row = ()
    for k in range(many):
        row = row + (3 * k + 2, 3 * k + 1, 3 * k + 3)
    return row[:-1]


FORTRESS = with_nested(3)

# Rows without a minus: one bad part, several ones side by side, parts within parts, with and without a fortress.
SPECIAL = (
    (2, 1), (3, 2, 1), (2, 3, 1), (3, 1, 2), (1, 3, 2), (4, 3, 2, 1), (2, 4, 1, 3), (4, 5, 1, 2, 3), (2, 1, 3, 5, 4),
    side_by_side(2), side_by_side(3), side_by_side(4), side_by_side(13), with_nested(1), with_nested(2), FORTRESS,
    with_nested(4), with_nested(5), with_nested(6), (2, 4, 3, 5, 1, 6, 8, 7), (2, 4, 3, 5, 1, 6, 8, 7, 9, 11, 10),
    (2, 4, 3, 5, 7, 6, 8, 1), (2, 4, 6, 5, 7, 3, 8, 1), (3, 5, 4, 6, 2, 7, 9, 8, 1), FORTRESS + (18, 20, 19),
    with_nested(2) + (12, 14, 13), (4, 6, 5, 7, 3, 2, 1), (2, 4, 3, 5, 1, 6, -7), (-1, 3, 2), (2, 1, 3, -4),
    (2, 4, 3, 5, 1, 6, -7, 8, 10, 9), FORTY[20:] + FORTY[:20], FORTY[::-1], FORTY[10:20] + FORTY[:10] + FORTY[20:],
)


def many_rows():
    """Signed rows of many lengths up to 40 pieces, with and without a minus."""
    rows = [(), (1,), (-1,), FORTY, NEGATIVE, NEGATIVE[::-1], *SPECIAL]
    for n in (2, 3, 5, 8, 12, 17, 24, 24, 39, 40, 40):
        rows.extend(some_signed(n, 6, n) + some_rows(n, 6, n))
    return rows


def marks_by_words(row):
    """The marks at the spots."""
    found = [0]
    for x in row:
        if x > 0:
            found += [2 * x - 1, 2 * x]
        else:
            y = -x
            found += [2 * y, 2 * y - 1]
    return found + [2 * len(row) + 1]


def lines_by_words(row):
    """The pairs of spots of the light lines."""
    found = marks_by_words(row)
    return [tuple(sorted([found.index(2 * k), found.index(2 * k + 1)])) for k in range(len(row) + 1)]


def rings_by_words(row):
    """The rings as sets of spots: spots that lines connect, step by step."""
    lines = lines_by_words(row) + [(2 * i, 2 * i + 1) for i in range(len(row) + 1)]
    rings = [{spot} for spot in range(2 * len(row) + 2)]
    for p, q in lines:
        joined = [ring for ring in rings if p in ring or q in ring]
        rings = [ring for ring in rings if ring not in joined] + [set().union(*joined)]
    return rings


def cross_by_words(line, other):
    """True if exactly one spot of the other line lies between the two of the line."""
    return sum(spot in range(line[0] + 1, line[1]) for spot in other) == 1


def parts_by_words(row):
    """The parts: crossings connect lines, step by step."""
    lines = lines_by_words(row)
    parts = [{k} for k in range(len(lines))]
    for k in range(len(lines)):
        for l in range(k):
            if cross_by_words(lines[k], lines[l]):
                joined = [part for part in parts if k in part or l in part]
                parts = [part for part in parts if part not in joined] + [set().union(*joined)]
    return tuple(sorted(tuple(sorted(part)) for part in parts))


def bad_by_words(row):
    """The bad parts."""
    lines = lines_by_words(row)
    bad = []
    for part in parts_by_words(row):
        oriented = [k for k in part if (lines[k][0] + lines[k][1]) % 2 == 0]
        along = [i for i in range(len(lines)) if lines[part[0]] == (2 * i, 2 * i + 1)]
        if not oriented and not (len(part) == 1 and along):
            bad.append(part)
    return tuple(bad)


def among_by_words(row, bad):
    """The hurdles among some bad parts."""
    lines = lines_by_words(row)
    around = []
    for spot in range(2 * len(row) + 2):
        around += [part for part in bad for k in part if spot in lines[k]]
    found = []
    for part in bad:
        readings = [around[at:] + around[:at] for at in range(len(around))]
        if any(reading[:2 * len(part)] == [part] * (2 * len(part)) for reading in readings):
            found.append(part)
    return tuple(found)


def hurdles_by_words(row):
    """The hurdles."""
    return among_by_words(row, bad_by_words(row))


def great_by_words(row):
    """The great hurdles."""
    bad = bad_by_words(row)
    found = among_by_words(row, bad)
    great = []
    for hurdle in found:
        among = among_by_words(row, tuple([part for part in bad if part != hurdle]))
        if set(among) - set(found):
            great.append(hurdle)
    return tuple(great)


def fortress_by_words(row):
    """True if the drawing is a fortress."""
    return len(hurdles_by_words(row)) % 2 == 1 and great_by_words(row) == hurdles_by_words(row)
