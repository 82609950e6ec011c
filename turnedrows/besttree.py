"""All trees over few bodies, and the best one of them (point 4.4)."""

from turnedrows.errors import OutOfRange
from turnedrows.families import FEWEST_BODIES, ancestors, tree_cost

MOST_TO_TRY = 6


def check_number(k):
    """OutOfRange if the trees over k bodies are not told."""
    if not FEWEST_BODIES <= k <= MOST_TO_TRY:
        raise OutOfRange("all trees are told for 2 to 6 bodies")


def with_index(subtree, k):
    """The list of the subtrees that come when the index k is inserted, beside the whole subtree first."""
    found = [(subtree, k)]
    if isinstance(subtree, tuple):
        left, right = subtree
        found.extend([(new, right) for new in with_index(left, k)])
        found.extend([(left, new) for new in with_index(right, k)])
    return found


def trees(k):
    """The tuple of the trees over k bodies, each with the index 0 alone on its left. OutOfRange if k is not 2 to 6."""
    check_number(k)
    found = [(0, 1)]
    for index in range(2, k):
        found = [(0, new) for _, subtree in found for new in with_index(subtree, index)]
    return tuple(found)


def best_tree(bodies):
    """The first tree, labeled, whose ancestors have the least cost, over 2 to 6 bodies. OutOfRange, InvalidBody."""
    check_number(len(bodies))
    labeled = [ancestors(tree, bodies) for tree in trees(len(bodies))]
    return min(labeled, key=lambda tree: tree_cost(tree, bodies))
