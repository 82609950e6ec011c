"""Trees over bodies, their ancestors, and what a labeled tree costs (points 4.2 and 4.3)."""

from turnedrows.bodies import body_of, check_all_same_pieces
from turnedrows.errors import InvalidTree
from turnedrows.singles import least_singles

FEWEST_BODIES = 2
MOST_BODIES = 9

# A set of answers is a sum of these.
NO = 1
YES = 2


def is_tree(tree, k):
    """True if a value is a tree over k bodies."""
    if not FEWEST_BODIES <= k <= MOST_BODIES or not isinstance(tree, tuple):
        return False
    found = []
    left = [tree]
    # A deep value may hold very many indexes: it is left as soon as there are too many.
    while left and len(found) <= k:
        part = left.pop()
        if not isinstance(part, tuple):
            found.append(part)
        elif len(part) == 2:
            left.extend(part)
        else:
            return False
    return sorted(found) == list(range(k))


def check_tree(tree, k):
    """The tree itself. InvalidTree if it is no tree over k bodies."""
    if not is_tree(tree, k):
        raise InvalidTree("a tree over k bodies, 2 to 9, has each of the indexes 0 to k - 1 once in its pairs")
    return tree


def common_answers(one, other):
    """The answers that two sets contain, or, if there are none, the answers of either."""
    return one & other if one & other else one | other


def answered(subtree, bodies, joints):
    """For an index the pair (answers, index), for a pair the triple (answers, left, right) of its answered subtrees.

    The answers are a list with a set of answers for each of the joints.
    """
    if not isinstance(subtree, tuple):
        body = bodies[subtree]
        return [YES if body.partner(a) == b else NO for a, b in joints], subtree
    left = answered(subtree[0], bodies, joints)
    right = answered(subtree[1], bodies, joints)
    return [common_answers(one, other) for one, other in zip(left[0], right[0])], left, right


def labeled_by(found, n, joints, above):
    """The labeled tree of an answered subtree. The answers above it are those of the pair directly above."""
    if len(found) == 2:
        return found[1]
    sets, left, right = found
    here = [answer if answer & answers else answers for answer, answers in zip(above, sets)]
    body = body_of(n, [joint for joint, answer in zip(joints, here) if answer == YES])
    return body, labeled_by(left, n, joints, here), labeled_by(right, n, joints, here)


def ancestors(tree, bodies):
    """The tree labeled with ancestors of the least cost. InvalidTree, InvalidBody."""
    check_tree(tree, len(bodies))
    check_all_same_pieces(bodies)
    # Pairs of ends that are no joint of any body are no joint of an ancestor.
    joints = sorted(set([joint for body in bodies for joint in body.joints()]))
    # With NO above it, the whole tree has the answer yes only where its set is {yes}.
    return labeled_by(answered(tree, bodies, joints), bodies[0].n, joints, [NO] * len(joints))


def body_at(subtree, bodies):
    """The body of a labeled subtree."""
    return subtree[0] if isinstance(subtree, tuple) else bodies[subtree]


def tree_cost(labeled, bodies):
    """The sum, over all labels of a tree, of the least numbers of single moves to the bodies of their subtrees."""
    # The subtrees are trees for this function, too: an index alone costs nothing.
    if not isinstance(labeled, tuple):
        return 0
    body, left, right = labeled
    total = least_singles(body, body_at(left, bodies)) + least_singles(body, body_at(right, bodies))
    return total + tree_cost(left, bodies) + tree_cost(right, bodies)
