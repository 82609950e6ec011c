"""The points 3.1 to 3.4 read word by word, and bodies to try. Joints are told as sets of pairs of ends."""

import functools
import itertools
import random

from turnedrows.bodies import Body, body_of


@functools.lru_cache(maxsize=None)
def joint_sets(ends):
    """All sets of pairs of some ends in which no end stands twice, each as an ascending tuple of ascending pairs."""
    if not ends:
        return ((),)
    found = list(joint_sets(ends[1:]))
    for k in range(1, len(ends)):
        found.extend([tuple(sorted(rest + ((ends[0], ends[k]),))) for rest in joint_sets(ends[1:k] + ends[k + 1:])])
    return tuple(found)


def all_joints(n):
    """The joints of all bodies of n pieces."""
    return joint_sets(tuple(range(1, 2 * n + 1)))


def some_joints(n, many, seed=1):
    """The joints of a few bodies of n pieces, from none up to n of them, the same ones in each run."""
    chance = random.Random(f"joints {n} {seed}")
    found = []
    for k in range(many):
        ends = chance.sample(range(1, 2 * n + 1), 2 * n)
        count = (n, 0, n - n // 4, n // 2)[k % 4]
        found.append(tuple(sorted([tuple(sorted(ends[2 * i:2 * i + 2])) for i in range(count)])))
    return found


def some_strands(n, seed=1):
    """Strands of a body of n pieces, read in any way, the same ones in each run."""
    chance = random.Random(f"strands {n} {seed}")
    pieces = [chance.choice((1, -1)) * x for x in chance.sample(range(1, n + 1), n)]
    found = []
    while pieces:
        count = chance.randint(1, min(len(pieces), 9))
        found.append((chance.choice(("open", "closed")), tuple(pieces[:count])))
        pieces = pieces[count:]
    return tuple(found)


def readings(strand):
    """All readings of a strand."""
    word, pieces = strand
    back = tuple([-x for x in reversed(pieces)])
    starts = range(len(pieces)) if word == "closed" else (0,)
    return [(word, way[at:] + way[:at]) for way in (pieces, back) for at in starts]


def joints_by_words(strands):
    """The joints of a body: an end by which a piece is left, and the end by which the next one is entered."""
    found = []
    for word, pieces in strands:
        followers = list(zip(pieces, pieces[1:]))
        if word == "closed":
            followers.append((pieces[-1], pieces[0]))
        for x, y in followers:
            left = 2 * x if x > 0 else 2 * -x - 1
            entered = 2 * y - 1 if y > 0 else 2 * -y
            found.append((min(left, entered), max(left, entered)))
    return tuple(sorted(found))


def normal_by_words(strands):
    """The normal form: of each strand the reading that point 3.3 tells, in ascending order of the first pieces."""
    found = []
    for strand in strands:
        if strand[0] == "closed":
            least = min(abs(x) for x in strand[1])
            good = [reading for reading in readings(strand) if reading[1][0] == least]
        elif len(strand[1]) == 1:
            good = [reading for reading in readings(strand) if reading[1][0] > 0]
        else:
            good = [reading for reading in readings(strand) if abs(reading[1][0]) < abs(reading[1][-1])]
        assert len(set(good)) == 1
        found.append(good[0])
    return tuple(sorted(found, key=lambda strand: abs(strand[1][0])))


def loose_ends(n, joints):
    """The ends of n pieces that are in no joint."""
    return [end for end in range(1, 2 * n + 1) if end not in itertools.chain(*joints)]


@functools.lru_cache(maxsize=None)
def recuts_by_words(n, joints):
    """All recuts of a body, each with the joints that come out of it."""
    pairs = [pair for a, b in joints for pair in ((a, b), (b, a))] + [(0, 0)]
    for end in loose_ends(n, joints):
        pairs.extend([(end, 0), (0, end)])
    found = {}
    for p, q in pairs:
        for r, s in pairs:
            ends = [end for end in (p, q, r, s) if end > 0]
            if ends and len(ends) == len(set(ends)):
                kept = [joint for joint in joints if not set(joint) & set(ends)]
                new = [tuple(sorted(pair)) for pair in ((p, r), (q, s)) if min(pair) > 0]
                found["recut", p, q, r, s] = tuple(sorted(kept + new))
    return found


def singles_by_words(n, joints):
    """All cuts and joins of a body, each with the joints that come out of it."""
    found = {}
    for a, b in joints:
        found["cut", a, b] = tuple([joint for joint in joints if joint != (a, b)])
    for a, b in itertools.combinations(loose_ends(n, joints), 2):
        found["join", a, b] = tuple(sorted(joints + ((a, b),)))
    return found


def search_recuts(n, joints):
    """From a body on, breadth first over the recuts: for the joints of each body the least number of recuts to it,
    and the number of shortest rows of bodies that lead there."""
    least = {joints: 0}
    ways = {joints: 1}
    queue = [joints]
    for here in queue:
        # Recuts that make the same body count once; one that changes nothing leads nowhere.
        for there in set(recuts_by_words(n, here).values()) - {here}:
            if there not in least:
                least[there] = least[here] + 1
                ways[there] = 0
                queue.append(there)
            if least[there] == least[here] + 1:
                ways[there] += ways[here]
    return least, ways


def search_singles(n, joints):
    """From a body on, breadth first over cuts and joins: for the joints of each body the least number of single
    moves to it, and the number of least scripts that lead there."""
    least = {joints: 0}
    ways = {joints: 1}
    queue = [joints]
    for here in queue:
        for there in singles_by_words(n, here).values():
            if there not in least:
                least[there] = least[here] + 1
                ways[there] = 0
                queue.append(there)
            if least[there] == least[here] + 1:
                ways[there] += ways[here]
    return least, ways


def some_bodies(many=4):
    """Bodies of many numbers of pieces up to 40."""
    found = []
    for n in (0, 1, 2, 3, 5, 8, 13, 27, 40):
        found.extend([body_of(n, joints) for joints in some_joints(n, many)])
        found.extend([Body(n, some_strands(n, seed)) for seed in range(many)])
    return found


def long_pairs():
    """Pairs of bodies with the same number of pieces, up to 40; in some of them many joints are in both bodies."""
    pairs = []
    for n in (0, 1, 2, 5, 8, 13, 27, 40, 40):
        pairs.extend([(n, one, other) for one, other in zip(some_joints(n, 8, 1), some_joints(n, 8, 2)[::-1])])
        pairs.extend([(n, one, other) for one, other in zip(some_joints(n, 8, 3), some_joints(n, 8, 4))])
        for joints in some_joints(n, 4, 5):
            pairs.extend([(n, joints, joints[::2]), (n, joints[1::2], joints), (n, joints, joints), (n, joints, ())])
        one, other = [joints_by_words(some_strands(n, seed)) for seed in (1, 2)]
        pairs.append((n, one, other))
    return [(body_of(n, one), body_of(n, other)) for n, one, other in pairs]


def check_refuses_pieces(test, error, function):
    """A function of two bodies refuses bodies of different numbers of pieces."""
    for n, m in ((0, 1), (1, 2), (2, 1), (3, 0), (39, 40), (40, 39), (40, 0)):
        for one, other in zip(some_joints(n, 4, 1), some_joints(m, 4, 2)):
            with test.assertRaises(error):
                function(body_of(n, one), body_of(m, other))
            with test.assertRaises(error):
                function(body_of(n, one), body_of(m, ()))
