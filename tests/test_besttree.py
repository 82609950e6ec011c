"""besttree.py: point 4.4."""

import unittest

from tests import kin
from tests.helpers import HUGE
from turnedrows.besttree import best_tree, trees
from turnedrows.bodies import body_of
from turnedrows.errors import InvalidBody, OutOfRange
from turnedrows.families import ancestors, check_tree, tree_cost


def subtree_paths(tree):
    """The paths of all subtrees: the tree itself first, then those within its left part, then within its right."""
    if isinstance(tree, int):
        return [()]
    return [()] + [(side,) + path for side in (0, 1) for path in subtree_paths(tree[side])]


def replaced(tree, path, k):
    """The tree with the subtree v at a path replaced by (v, k)."""
    if path == ():
        return tree, k
    parts = list(tree)
    parts[path[0]] = replaced(tree[path[0]], path[1:], k)
    return tuple(parts)


def trees_by_words(k):
    found = [(0, 1)]
    for index in range(2, k):
        found = [(0, replaced(tree[1], path, index)) for tree in found for path in subtree_paths(tree[1])]
    return tuple(found)


def shape(tree):
    """The tree without the order of its sides."""
    return tree if isinstance(tree, int) else frozenset([shape(tree[0]), shape(tree[1])])


class Trees(unittest.TestCase):
    def test_few_bodies(self):
        self.assertEqual(trees(2), ((0, 1),))
        self.assertEqual(trees(3), ((0, (1, 2)),))
        self.assertEqual(trees(4), ((0, ((1, 2), 3)), (0, ((1, 3), 2)), (0, (1, (2, 3)))))
        self.assertEqual(trees(5), (
            (0, (((1, 2), 3), 4)), (0, (((1, 2), 4), 3)), (0, (((1, 4), 2), 3)), (0, ((1, (2, 4)), 3)),
            (0, ((1, 2), (3, 4))),
            (0, (((1, 3), 2), 4)), (0, (((1, 3), 4), 2)), (0, (((1, 4), 3), 2)), (0, ((1, (3, 4)), 2)),
            (0, ((1, 3), (2, 4))),
            (0, ((1, (2, 3)), 4)), (0, ((1, 4), (2, 3))), (0, (1, ((2, 3), 4))), (0, (1, ((2, 4), 3))),
            (0, (1, (2, (3, 4)))),
        ))

    def test_the_order_that_is_told(self):
        for k, many in ((2, 1), (3, 1), (4, 3), (5, 15), (6, 105)):
            found = trees(k)
            self.assertIs(type(found), tuple)
            self.assertEqual(len(found), many)
            self.assertEqual(found, trees_by_words(k))
            self.assertEqual(len({shape(tree) for tree in found}), many)
            for tree in found:
                self.assertEqual(tree[0], 0)
                self.assertIs(check_tree(tree, k), tree)

    def test_other_numbers(self):
        for k in (1, 0, -1, -2, 7, 8, 9, 10, 100, HUGE, -HUGE):
            with self.assertRaises(OutOfRange):
                trees(k)


class BestTree(unittest.TestCase):
    def check(self, bodies):
        before = [body.joints() for body in bodies]
        found = best_tree(bodies)
        best = None
        for tree in trees_by_words(len(bodies)):
            value = ancestors(tree, bodies)
            cost = kin.cost_by_words(value, bodies)[1]
            if best is None or cost < best[0]:
                best = cost, tree, value
        self.assertEqual(found, best[2])
        self.assertTrue(kin.is_labeled(found, best[1], bodies[0].n))
        self.assertEqual([body.joints() for body in bodies], before)

    def test_two_to_six_bodies(self):
        for n in (0, 1, 2, 3, 8, 40):
            for k in range(2, 7):
                for bodies in kin.kin(n, k):
                    self.check(bodies)

    def test_no_tree_costs_less(self):
        for n in (1, 2, 5):
            for k in (2, 3, 4):
                for bodies in kin.kin(n, k, 3):
                    least = min(
                        tree_cost(ancestors(tree, bodies), bodies) for tree in kin.all_trees(tuple(range(k)))
                    )
                    self.assertEqual(tree_cost(best_tree(bodies), bodies), least)

    def test_the_first_one_of_several(self):
        for k in range(2, 7):
            body = body_of(3, ((1, 2), (4, 5)))
            tree = trees(k)[0]
            self.assertEqual(best_tree((body,) * k), kin.labeled(tree, {path: body for path in kin.paths(tree)}))
        one, none = body_of(1, ((1, 2),)), body_of(1, ())
        self.assertEqual(best_tree((none, one, none, one)), (none, 0, (none, (one, 1, 3), 2)))
        self.assertEqual(best_tree((none, none, one, one)), (none, 0, (none, 1, (one, 2, 3))))

    def test_another_number_of_bodies(self):
        for k in (0, 1, 7, 8, 9, 20):
            for bodies in ((body_of(2, ((2, 3),)),) * k, *kin.differing(k)):
                with self.assertRaises(OutOfRange):
                    best_tree(bodies)

    def test_different_numbers_of_pieces(self):
        for k in range(2, 7):
            for bodies in kin.differing(k):
                with self.assertRaises(InvalidBody):
                    best_tree(bodies)


if __name__ == "__main__":
    unittest.main()
