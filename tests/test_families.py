"""families.py: points 4.2 and 4.3."""

import itertools
import unittest

from tests import kin, strands
from turnedrows.bodies import Body, body_of
from turnedrows.errors import InvalidBody, InvalidTree
from turnedrows.families import ancestors, check_tree, tree_cost


def all_pairs(n):
    return itertools.combinations(range(1, 2 * n + 1), 2)


def joints_of_any(bodies):
    return {joint for body in bodies for joint in body.joints()}


class CheckTree(unittest.TestCase):
    def test_trees(self):
        for k in range(2, 10):
            for tree in kin.some_trees(k, 40):
                self.assertIs(check_tree(tree, k), tree)

    def test_all_trees_over_few_bodies(self):
        for k, many in ((2, 2), (3, 12), (4, 120)):
            trees = kin.all_trees(tuple(range(k)))
            self.assertEqual(len(set(trees)), many)
            for tree in trees:
                self.assertIs(check_tree(tree, k), tree)

    def test_no_trees(self):
        for at, (value, k) in enumerate(kin.BAD_TREES):
            with self.assertRaises(InvalidTree, msg=at):
                check_tree(value, k)

    def test_trees_over_another_number_of_bodies(self):
        for k in range(2, 10):
            for tree in kin.some_trees(k, 3):
                for other in range(-2, 13):
                    if other != k:
                        with self.assertRaises(InvalidTree):
                            check_tree(tree, other)

    def test_changed_trees(self):
        for k in range(2, 10):
            for tree in kin.some_trees(k, 3):
                for bad in (-1, k, k + 1, 9, (), (0,), (0, 1, 2), (0, 1)):
                    for at in range(k):
                        with self.assertRaises(InvalidTree):
                            check_tree(self.put(tree, at, bad), k)
                for at, other in itertools.permutations(range(k), 2):
                    with self.assertRaises(InvalidTree):
                        check_tree(self.put(tree, at, other), k)

    def put(self, tree, index, value):
        """The tree with an index replaced by a value."""
        if isinstance(tree, int):
            return value if tree == index else tree
        return tuple([self.put(subtree, index, value) for subtree in tree])


class Ancestors(unittest.TestCase):
    def check(self, tree, bodies, pairs):
        before = [body.joints() for body in bodies]
        found = ancestors(tree, bodies)
        self.assertTrue(kin.is_labeled(found, tree, bodies[0].n))
        self.assertEqual(found, kin.ancestors_by_words(tree, bodies, pairs))
        self.assertEqual([body.joints() for body in bodies], before)

    def test_all_trees_over_few_bodies_of_few_pieces(self):
        for n in range(3):
            for k in (2, 3):
                for tree in kin.all_trees(tuple(range(k))):
                    for bodies in itertools.product(kin.all_bodies(n), repeat=k):
                        self.check(tree, bodies, list(all_pairs(n)))

    def test_drawn_trees_over_two_to_nine_bodies(self):
        for n in (0, 1, 2, 3, 5):
            for k in range(2, 10):
                for bodies in kin.kin(n, k):
                    for tree in kin.some_trees(k, 3, n):
                        self.check(tree, bodies, list(all_pairs(n)))

    def test_longer_bodies(self):
        # For other pairs of ends no body has the joint: each set is {no}.
        for n in (13, 40):
            for k in range(2, 10):
                for bodies in kin.kin(n, k):
                    for tree in kin.some_trees(k, 1, n):
                        self.check(tree, bodies, joints_of_any(bodies))

    def test_examples(self):
        one, none = body_of(1, ((1, 2),)), body_of(1, ())
        self.assertEqual(ancestors((0, 1), (one, one)), (one, 0, 1))
        self.assertEqual(ancestors((1, 0), (one, none)), (none, 1, 0))
        self.assertEqual(ancestors(((0, 1), 2), (one, none, one)), (one, (one, 0, 1), 2))
        self.assertEqual(ancestors(((0, 1), 2), (one, none, none)), (none, (none, 0, 1), 2))
        self.assertEqual(ancestors(((0, 1), 2), (one, one, none)), (none, (one, 0, 1), 2))
        self.assertEqual(
            ancestors(((0, 1), (2, 3)), (one, none, one, none)), (none, (none, 0, 1), (none, 2, 3))
        )
        self.assertEqual(ancestors(((0, 1), (2, 3)), (one, none, one, one)), (one, (one, 0, 1), (one, 2, 3)))

    def test_no_labels_cost_less(self):
        for n, k in ((1, 2), (1, 3), (1, 4), (1, 5), (2, 2), (2, 3), (2, 4), (3, 2)):
            choices = kin.all_bodies(n)
            for bodies in kin.kin(n, k, 2) + kin.kin(n, k, 3):
                for tree in kin.some_trees(k, 2, n):
                    places = kin.paths(tree)
                    least = min(
                        kin.cost_by_words(kin.labeled(tree, dict(zip(places, labels))), bodies)[1]
                        for labels in itertools.product(choices, repeat=len(places))
                    )
                    self.assertEqual(kin.cost_by_words(ancestors(tree, bodies), bodies)[1], least)

    def test_equal_bodies(self):
        for body in strands.some_bodies(1):
            for k in range(2, 10):
                for tree in kin.some_trees(k, 1):
                    same = {path: body for path in kin.paths(tree)}
                    self.assertEqual(ancestors(tree, (body,) * k), kin.labeled(tree, same))

    def test_no_trees(self):
        for at, (value, k) in enumerate(kin.BAD_TREES):
            if 0 <= k < 100:
                for bodies in ((body_of(2, ((2, 3),)),) * k, *kin.differing(k)):
                    with self.assertRaises(InvalidTree, msg=at):
                        ancestors(value, bodies)

    def test_different_numbers_of_pieces(self):
        for k in range(2, 10):
            for bodies in kin.differing(k):
                for tree in kin.some_trees(k, 2):
                    with self.assertRaises(InvalidBody):
                        ancestors(tree, bodies)


class TreeCost(unittest.TestCase):
    def test_drawn_labels(self):
        for n in (0, 1, 3, 8, 40):
            for k in range(2, 10):
                for bodies in kin.kin(n, k):
                    for tree in kin.some_trees(k, 1, n):
                        places = kin.paths(tree)
                        for others in kin.kin(n, len(places), 5)[:2]:
                            value = kin.labeled(tree, dict(zip(places, others)))
                            self.assertEqual(tree_cost(value, bodies), kin.cost_by_words(value, bodies)[1])

    def test_ancestors(self):
        for k in range(2, 10):
            for bodies in kin.kin(13, k):
                for tree in kin.some_trees(k, 3):
                    value = ancestors(tree, bodies)
                    self.assertEqual(tree_cost(value, bodies), kin.cost_by_words(value, bodies)[1])

    def test_examples(self):
        ring, line, none = body_of(2, ((1, 4), (2, 3))), body_of(2, ((2, 3),)), body_of(2, ())
        self.assertEqual(tree_cost((ring, 0, 1), (ring, ring)), 0)
        self.assertEqual(tree_cost((ring, 0, 1), (none, line)), 3)
        self.assertEqual(tree_cost((ring, 1, (none, 2, 0)), (ring, line, none)), 1 + 2 + 0 + 2)
        self.assertEqual(tree_cost((none, (line, 1, 0), (ring, 2, 3)), (none, line, ring, line)), 1 + 2 + 0 + 1 + 0 + 1)

    def test_different_numbers_of_pieces(self):
        for k in range(2, 10):
            for bodies in kin.differing(k):
                for tree in kin.some_trees(k, 2):
                    for label in {body.n: body for body in bodies}.values():
                        value = kin.labeled(tree, {path: label for path in kin.paths(tree)})
                        with self.assertRaises(InvalidBody):
                            tree_cost(value, bodies)

    def test_labels_with_another_number_of_pieces(self):
        for n, m in ((0, 1), (3, 2), (39, 40)):
            bodies = (body_of(n, ()),) * 6
            for tree in kin.some_trees(6, 2):
                places = kin.paths(tree)
                for wrong in places:
                    labels = {path: body_of(m if path == wrong else n, ()) for path in places}
                    with self.assertRaises(InvalidBody):
                        tree_cost(kin.labeled(tree, labels), bodies)
                with self.assertRaises(InvalidBody):
                    tree_cost(kin.labeled(tree, {path: Body(m, tuple([("open", (x,)) for x in range(1, m + 1)]))
                                                 for path in places}), bodies)


if __name__ == "__main__":
    unittest.main()
