"""middles.py: point 4.1."""

import itertools
import unittest

from tests import kin, strands
from turnedrows.bodies import Body, body_of
from turnedrows.errors import InvalidBody
from turnedrows.middles import cost, middle


def middle_by_words(bodies):
    """The joints that more than half of the bodies have."""
    joints = {joint for body in bodies for joint in body.joints()}
    return sorted([joint for joint in joints if sum(joint in body.joints() for body in bodies) > len(bodies) / 2])


def some_kin():
    for n in (0, 1, 3, 8, 40):
        for k in range(1, 10):
            yield from kin.kin(n, k)


class Cost(unittest.TestCase):
    def test_the_sum_of_the_least_numbers(self):
        for bodies in some_kin():
            for body in bodies + kin.kin(bodies[0].n, 3, 7)[0]:
                self.assertEqual(cost(body, bodies), sum(kin.difference(body, other) for other in bodies))

    def test_examples(self):
        one, other, third = body_of(2, ((1, 4), (2, 3))), body_of(2, ((2, 3),)), body_of(2, ())
        self.assertEqual(cost(one, (one,)), 0)
        self.assertEqual(cost(one, (other,)), 1)
        self.assertEqual(cost(one, (one, other, third)), 3)
        self.assertEqual(cost(other, (one, other, third)), 2)
        self.assertEqual(cost(third, (one, one, other)), 5)
        self.assertEqual(cost(body_of(0, ()), (body_of(0, ()),) * 9), 0)

    def test_different_numbers_of_pieces(self):
        for k in range(2, 10):
            for bodies in kin.differing(k):
                for body in (bodies[0], bodies[-1], bodies[k // 2]):
                    with self.assertRaises(InvalidBody):
                        cost(body, bodies)
        for n, m in ((0, 1), (2, 1), (40, 39)):
            for k in (1, 9):
                with self.assertRaises(InvalidBody):
                    cost(body_of(n, ()), (body_of(m, ()),) * k)


class Middle(unittest.TestCase):
    def check(self, bodies):
        before = [body.joints() for body in bodies]
        found = middle(bodies)
        self.assertIs(type(found), Body)
        self.assertEqual(found.n, bodies[0].n)
        self.assertEqual(found.joints(), tuple(middle_by_words(bodies)))
        self.assertEqual([body.joints() for body in bodies], before)

    def test_one_to_nine_bodies(self):
        for bodies in some_kin():
            self.check(bodies)

    def test_just_half_of_an_even_number(self):
        one, other = body_of(2, ((1, 4), (2, 3))), body_of(2, ((2, 3),))
        for k in range(1, 5):
            self.assertEqual(middle((one,) * k + (other,) * k), other)
            self.assertEqual(middle((one,) * k + (body_of(2, ((1, 2), (3, 4))),) * k), body_of(2, ()))
            self.assertEqual(middle((one,) * (k + 1) + (other,) * k), one)
            self.assertEqual(middle((one,) * k + (other,) * (k + 1)), other)

    def test_a_single_body(self):
        for body in strands.some_bodies(2):
            self.assertEqual(middle((body,)), body)

    def test_no_body_costs_less(self):
        for n in range(3):
            for k in range(1, 5):
                for bodies in itertools.combinations_with_replacement(kin.all_bodies(n), k):
                    found = middle(bodies)
                    self.check(bodies)
                    self.assertEqual(cost(found, bodies), min(cost(body, bodies) for body in kin.all_bodies(n)))
        for k in range(2, 10):
            for bodies in kin.kin(3, k):
                self.assertEqual(cost(middle(bodies), bodies), min(cost(body, bodies) for body in kin.all_bodies(3)))

    def test_different_numbers_of_pieces(self):
        for k in range(2, 10):
            for bodies in kin.differing(k):
                with self.assertRaises(InvalidBody):
                    middle(bodies)


if __name__ == "__main__":
    unittest.main()
