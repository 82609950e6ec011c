"""Papers: each shows that no script of a kind is shorter than a number (point 5.1)."""

from turnedrows.bodies import check_same_pieces
from turnedrows.drawing import across, dark_across, drawing_rings, light_lines
from turnedrows.errors import OutOfRange
from turnedrows.nexts import wrong_pairs
from turnedrows.recuts import web
from turnedrows.rows import block_rings, blocks_lead, places_lead, relative_row, rings
from turnedrows.signed import relative_signed
from turnedrows.singles import joints_of_one
from turnedrows.takes import falls

WORDS = {
    "swap": "rings", "next": "pairs", "take": "falls", "blocks": "blocks", "turn": "turns", "recut": "web",
    "single": "joints",
}


def basis_of(kind, first, second):
    """What papers of a kind speak of: the relative row, or the pair of the bodies. OutOfRange for another kind."""
    if kind not in WORDS:
        raise OutOfRange("there are papers for swap, next, take, blocks, turn, recut and single")
    if kind in ("recut", "single"):
        check_same_pieces(first, second)
        return first, second
    return relative_signed(first, second) if kind == "turn" else relative_row(first, second)


def paper(kind, first, second):
    """A paper that shows the least number; for "turn" one that shows n + 1 minus the number of rings."""
    basis = basis_of(kind, first, second)
    if kind == "recut":
        return ("web",) + web(first, second)
    if kind == "single":
        return ("joints", joints_of_one(first, second))
    finders = {"swap": rings, "next": wrong_pairs, "take": falls, "blocks": block_rings, "turn": drawing_rings}
    find = finders[kind]
    return WORDS[kind], find(basis)


def is_parted(parts, things):
    """True if each part has an item and each of the things, a list in ascending order, stands once in the parts."""
    return () not in parts and sorted([item for part in parts for item in part]) == things


def is_led(ring, leads):
    """True if each item leads to the next one, and the last item to the first one."""
    return all([leads[ring[k - 1]] == ring[k] for k in range(len(ring))])


def is_by_turns(line, near, far):
    """True if each item but the last leads to the next one, near and far by turns."""
    by_turns = (near, far)
    return all([by_turns[k % 2][line[k]] == line[k + 1] for k in range(len(line) - 1)])


def is_ring(ring, near, far):
    """True if the items lead to one another in a ring, near first, and far from the last to the first one."""
    return len(ring) % 2 == 0 and is_by_turns(ring + ring[:1], near, far)


def is_way_from(way, near, far):
    """True if the ends lead to one another, near first, and if those outside have no other joint."""
    return far[way[0]] == 0 and is_by_turns(way + (0,), near, far)


def is_falling(row, places):
    """True if the places ascend and the numbers there descend."""
    return all([p < q and row[p] > row[q] for p, q in zip(places, places[1:])])


def shown_by_rings(row, loops):
    """The number that rings of places show, or None."""
    if not is_parted(loops, list(range(len(row)))):
        return None
    leads = places_lead(row)
    return len(row) - len(loops) if all([is_led(ring, leads) for ring in loops]) else None


def shown_by_pairs(row, pairs):
    """The number that pairs of places show, or None."""
    # Fewer are in both sets if one stands twice or does not count.
    return len(pairs) if len(set(pairs) & set(wrong_pairs(row))) == len(pairs) else None


def shown_by_falls(row, parts):
    """The number that falls show, or None."""
    if not is_parted(parts, list(range(len(row)))):
        return None
    return len(row) - len(parts) if all([is_falling(row, places) for places in parts]) else None


def shown_by_blocks(row, loops):
    """The number that block rings show, or None."""
    if not is_parted(loops, list(range(1, len(row) + 2))):
        return None
    leads = blocks_lead(row)
    return (len(row) + 1 - len(loops)) // 2 if all([is_led(ring, leads) for ring in loops]) else None


def shown_by_turns(row, loops):
    """The number that rings of a drawing show, or None."""
    spots = list(range(2 * len(row) + 2))
    if not is_parted(loops, spots):
        return None
    dark = {spot: dark_across(spot) for spot in spots}
    light = across(light_lines(row))
    return len(row) + 1 - len(loops) if all([is_ring(ring, dark, light) for ring in loops]) else None


def shown_by_web(bodies, loops, ways):
    """The number that the rings and the ways of a web show, or None."""
    ends = list(range(1, 2 * bodies[0].n + 1))
    if not is_parted(loops + ways, ends):
        return None
    one, other = [{end: body.partner(end) for end in ends} for body in bodies]
    if not all([is_ring(ring, one, other) for ring in loops]):
        return None
    if not all([is_way_from(way, one, other) or is_way_from(way, other, one) for way in ways]):
        return None
    return bodies[0].n - len(loops) - sum([len(way) % 2 for way in ways]) // 2


def shown_by_joints(bodies, joints):
    """The number that joints show, or None."""
    first, second = bodies
    return len(joints) if len(set(joints) & set(joints_of_one(first, second))) == len(joints) else None


SHOWS = {
    "swap": shown_by_rings, "next": shown_by_pairs, "take": shown_by_falls, "blocks": shown_by_blocks,
    "turn": shown_by_turns, "recut": shown_by_web, "single": shown_by_joints,
}


def shown(kind, first, second, paper):
    """The number that a value shows as a paper of a kind, or None if it is no such paper."""
    basis = basis_of(kind, first, second)
    parts = paper[1:]
    if paper[:1] != (WORDS[kind],) or len(parts) != (2 if kind == "recut" else 1):
        return None
    show = SHOWS[kind]
    return show(basis, *parts)
