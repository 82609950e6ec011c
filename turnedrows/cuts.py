"""The moves of bodies: recuts, cuts and joins (point 3.4)."""

from turnedrows.bodies import body_of
from turnedrows.errors import InvalidMove

NUMBERS = {"recut": 4, "cut": 2, "join": 2}


def is_pair(body, p, q):
    """True if the two are the ends of a joint, or a loose end and 0, or twice 0, in any order."""
    if min(p, q) < 0 or max(p, q) > 2 * body.n:
        return False
    if p == 0:
        return q == 0 or body.partner(q) == 0
    return body.partner(p) == q


def is_recut(body, p, q, r, s):
    """True if a recut of the body can have these four numbers."""
    ends = [end for end in (p, q, r, s) if end != 0]
    return 0 < len(ends) == len(set(ends)) and is_pair(body, p, q) and is_pair(body, r, s)


def is_move(body, move):
    """True if the move is one for this body."""
    if len(move) == 0 or move[0] not in NUMBERS or len(move) != 1 + NUMBERS[move[0]]:
        return False
    word, *ends = move
    if word == "recut":
        p, q, r, s = ends
        return is_recut(body, p, q, r, s)
    a, b = ends
    if not 0 < a < b:
        return False
    if word == "cut":
        return is_pair(body, a, b)
    return is_pair(body, a, 0) and is_pair(body, b, 0)


def new_joints(word, ends):
    """The list of the joints that a move makes."""
    if word == "cut":
        return []
    if word == "join":
        return [tuple(ends)]
    p, q, r, s = ends
    return [pair for pair in ((p, r), (q, s)) if 0 not in pair]


def do_cut(body, move):
    """The body that comes out of a move. InvalidMove if the move is none for this body."""
    if not is_move(body, move):
        raise InvalidMove("this is no move for this body")
    word, *ends = move
    kept = [joint for joint in body.joints() if joint[0] not in ends]
    return body_of(body.n, kept + new_joints(word, ends))


def do_cuts(body, moves):
    """The body to which the moves lead, done one after the other. InvalidMove if one of them cannot be done."""
    for move in moves:
        body = do_cut(body, move)
    return body
