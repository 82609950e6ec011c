"""The points 4.1 to 4.3 read word by word, trees to try, and values that are no trees. Joints are sets of pairs."""

import functools
import itertools
import random

from tests import strands
from tests.helpers import HUGE
from turnedrows.bodies import Body, body_of


def difference(first, second):
    """The number of joints that just one of the two bodies has."""
    return len(set(first.joints()) ^ set(second.joints()))


@functools.lru_cache(maxsize=None)
def all_bodies(n):
    return tuple([body_of(n, joints) for joints in strands.all_joints(n)])


def kin(n, k, seed=1):
    """A few tuples of k bodies of n pieces: without likeness, and such as come from one body by few moves."""
    chance = random.Random(f"kin {n} {k} {seed}")
    found = [tuple([body_of(n, joints) for joints in strands.some_joints(n, k, seed)])]
    for root in strands.some_joints(n, 4, seed):
        bodies = []
        for _ in range(k):
            joints = list(root)
            for _ in range(chance.randint(0, 3)):
                moves = strands.singles_by_words(n, tuple(sorted(joints)))
                if moves:
                    joints = moves[chance.choice(sorted(moves))]
            bodies.append(body_of(n, joints))
        found.append(tuple(bodies))
    found.append(found[1][:1] * k)
    return found


def differing(k):
    """Tuples of k bodies that do not all have the same number of pieces."""
    for at in range(k):
        for n, m in ((0, 1), (3, 2), (40, 39)):
            bodies = [body_of(n, ())] * k
            bodies[at] = body_of(m, ())
            if k > 1:
                yield tuple(bodies)


def leaves(tree):
    """The indexes of a tree from left to right."""
    return [tree] if isinstance(tree, int) else leaves(tree[0]) + leaves(tree[1])


def drawn_tree(indexes, chance):
    if len(indexes) == 1:
        return indexes[0]
    at = chance.randint(1, len(indexes) - 1)
    return drawn_tree(indexes[:at], chance), drawn_tree(indexes[at:], chance)


def some_trees(k, many, seed=1):
    """Trees over k bodies: some drawn ones, and the two that lean to one side, the same ones in each run."""
    chance = random.Random(f"tree {k} {seed}")
    found = [drawn_tree(chance.sample(range(k), k), chance) for _ in range(many)]
    left = right = 0
    for index in range(1, k):
        left, right = (left, index), (index, right)
    return found + [left, right]


def all_trees(indexes):
    """All trees over some indexes, in any order of them."""
    if len(indexes) == 1:
        return [indexes[0]]
    found = []
    for count in range(1, len(indexes)):
        for one in itertools.combinations(indexes, count):
            other = tuple([index for index in indexes if index not in one])
            found.extend([(left, right) for left in all_trees(one) for right in all_trees(other)])
    return found


def nested(value, depth):
    for _ in range(depth):
        value = (value,)
    return value


def doubled(value, depth):
    for _ in range(depth):
        value = (value, value)
    return value


def leaning(indexes):
    tree = indexes[0]
    for index in indexes[1:]:
        tree = (tree, index)
    return tree


BAD_TREES = (
    # An index alone, numbers of bodies over which there is no tree.
    (0, 1), (0, 2), (1, 2), (0, 0), (0, 9), (-1, 2), ((), 0), ((), 2), ((0,), 1), ((0, 1), 1), ((0, 1), 0),
    ((0, 1), -1), ((0, 1), -2), ((0, 1), 10), ((0, 1), HUGE), ((0, 1), -HUGE), (leaning(range(10)), 10),
    (leaning(range(20)), 20), (leaning(range(11)), 11), (0, HUGE), ((0, 0), 1),
    # Another number of bodies.
    ((0, 1), 3), ((0, 1), 9), (((0, 1), 2), 2), (((0, 1), 2), 4), (leaning(range(9)), 8), (leaning(range(8)), 9),
    (leaning(range(10)), 9), (leaning(range(20)), 9),
    # An index that stands twice, is missing, below 0 or too great.
    ((0, 0), 2), ((1, 1), 2), (((0, 1), 1), 3), (((0, 1), 0), 2), (((0, 1), (0, 1)), 2), (((0, 1), (0, 1)), 4),
    ((0, 2), 2), ((1, 2), 2), ((2, 1), 2), ((0, -1), 2), ((-1, 0), 2), ((-1, -2), 2), ((0, HUGE), 2), ((-HUGE, 1), 2),
    (((0, 1), 3), 3), (((0, 1), -1), 3), ((((0, 1), 2), 4), 4), (leaning(range(1, 10)), 9),
    # Tuples of no, one or three subtrees.
    ((), 1), ((0,), 2), ((0, 1, 2), 3), ((0, 1, 2), 2), ((0, 1, 1), 2), (((0,), 1), 2), (((0, 1),), 2), (((), 0, 1), 2),
    ((0, ()), 2), (((), ()), 2), ((((0, 1), ()), 2), 3), ((0, (1,)), 2), (((0, 1), (2,)), 3), ((0, 1, ()), 2),
    ((0, (1, 2, 3)), 4), ((((0, 1, 2), 3), 4), 5), (tuple(range(9)), 9), (((0, 1), (2, 3), (4, 5)), 6),
    # Deep and wide values.
    (nested(0, 20), 2), (nested((0, 1), 18), 2), (nested((), 19), 2), (doubled(0, 20), 2), (doubled(1, 20), 9),
    (doubled((), 19), 3), (leaning([0] * 21), 9), (leaning(range(21)), 9), ((leaning([()] * 20), 0), 2),
    ((0,) * 1000, 2), (((0,) * 1000, (1,) * 1000), 2),
)


def cost_by_words(tree, bodies):
    """The body of a labeled tree, and its cost: over all triples, the moves from their body to those below."""
    if isinstance(tree, int):
        return bodies[tree], 0
    body, left, right = tree
    total = 0
    for subtree in (left, right):
        below, cost = cost_by_words(subtree, bodies)
        total += cost + difference(body, below)
    return body, total


def sets_by_words(subtree, bodies, joint):
    """The sets of answers of a subtree and of all subtrees within it, by their paths."""
    if isinstance(subtree, int):
        return {"": {"yes" if joint in bodies[subtree].joints() else "no"}}
    found = {}
    for side, within in zip("lr", subtree):
        found.update({side + path: answers for path, answers in sets_by_words(within, bodies, joint).items()})
    found[""] = (found["l"] & found["r"]) or (found["l"] | found["r"])
    return found


def answers_by_words(tree, bodies, joint):
    """The paths of the pairs of a tree at which the answer is yes."""
    sets = sets_by_words(tree, bodies, joint)
    pairs = [path for path in sets if path + "l" in sets]
    answers = {}
    for path in sorted(pairs, key=len):
        if path == "":
            answers[path] = "yes" if sets[path] == {"yes"} else "no"
        elif answers[path[:-1]] in sets[path]:
            answers[path] = answers[path[:-1]]
        else:
            answers[path], = sets[path]
    return [path for path in answers if answers[path] == "yes"]


def labeled(tree, bodies, path=""):
    """The tree with its pairs labeled: bodies is a dict by the paths of the pairs."""
    if isinstance(tree, int):
        return tree
    return bodies[path], labeled(tree[0], bodies, path + "l"), labeled(tree[1], bodies, path + "r")


def paths(tree, path=""):
    """The paths of the pairs of a tree."""
    if isinstance(tree, int):
        return []
    return [path] + paths(tree[0], path + "l") + paths(tree[1], path + "r")


def ancestors_by_words(tree, bodies, pairs):
    """The labeled tree of point 4.3, from the answers for some pairs of ends."""
    n = bodies[0].n
    joints = {path: [] for path in paths(tree)}
    for pair in pairs:
        for path in answers_by_words(tree, bodies, pair):
            joints[path].append(pair)
    return labeled(tree, {path: body_of(n, joints[path]) for path in joints})


def is_labeled(value, tree, n):
    """True if the value is the tree with a body of n pieces in each of its pairs."""
    if isinstance(tree, int):
        return type(value) is int and value == tree
    return (
        type(value) is tuple and len(value) == 3 and type(value[0]) is Body and value[0].n == n
        and is_labeled(value[1], tree[0], n) and is_labeled(value[2], tree[1], n)
    )
