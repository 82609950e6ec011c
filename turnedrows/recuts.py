"""The fewest recuts that lead one body to another one (points 3.5 and 3.6)."""

from turnedrows.bodies import check_same_pieces
from turnedrows.cuts import do_cut
from turnedrows.errors import OutOfRange
from turnedrows.swaps import ways_by_sizes


def ends_from(start, near, far):
    """The tuple of the ends from a start on along joints of two bodies by turns, one of the near body first."""
    met = [start]
    end = near.partner(start)
    while end not in (0, start):
        met.append(end)
        near, far = far, near
        end = near.partner(end)
    return tuple(met)


def ways_of(first, second):
    """The tuple of the ways of the web of two bodies, each from the lesser one of its ends outside."""
    found = []
    seen = {}
    for end in range(1, 2 * first.n + 1):
        if end not in seen and 0 in (first.partner(end), second.partner(end)):
            near, far = (second, first) if first.partner(end) == 0 else (first, second)
            way = ends_from(end, near, far)
            found.append(way)
            # The other end outside is met later: it begins no other way.
            seen[way[-1]] = True
    return tuple(found)


def web(first, second):
    """The pair (rings, ways) of the web of two bodies. A ring goes along a joint of the first body first."""
    check_same_pieces(first, second)
    ways = ways_of(first, second)
    seen = {end: True for way in ways for end in way}
    rings = []
    for end in range(1, 2 * first.n + 1):
        if end not in seen:
            ring = ends_from(end, first, second)
            rings.append(ring)
            seen.update({met: True for met in ring})
    return tuple(rings), ways


def least_recuts(first, second):
    """The least number of recuts that lead the first body to the second one."""
    rings, ways = web(first, second)
    odd = [way for way in ways if len(way) % 2 == 1]
    return first.n - len(rings) - len(odd) // 2


def recut_toward(body, a, b):
    """The recut that makes two ends of a body a joint, or one end loose if the other is 0."""
    return ("recut", a, body.partner(a), b, 0 if b == 0 else body.partner(b))


def recut_script(first, second):
    """A script of the least number of recuts that leads the first body to the second one."""
    check_same_pieces(first, second)
    script = []
    body = first
    # Each joint that is made makes one more ring of the web. When all are made, each cut parts an even way in two.
    for a, b in second.joints() + tuple([(end, 0) for end in second.loose()]):
        if body.partner(a) != b:
            move = recut_toward(body, a, b)
            script.append(move)
            body = do_cut(body, move)
    return tuple(script)


def recut_ways(first, second):
    """The number of the shortest rows of bodies from the first to the second one, by recuts."""
    rings, ways = web(first, second)
    if any([len(way) > 1 for way in ways]):
        raise OutOfRange("an end is loose in just one of the two bodies")
    return ways_by_sizes([len(ring) // 2 for ring in rings])
