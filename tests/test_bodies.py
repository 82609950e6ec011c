"""bodies.py: points 3.1 to 3.3."""

import itertools
import random
import unittest

from tests import strands
from tests.helpers import FORTY, HUGE, NEGATIVE
from turnedrows.bodies import Body, body_of
from turnedrows.errors import InvalidBody

BAD_BODIES = (
    # n below 0 and above 40, or another one than the number of pieces.
    (-1, ()), (-1, (("open", (1,)),)), (41, (("open", FORTY + (41,)),)), (41, ()), (HUGE, ()), (-HUGE, ()),
    (HUGE, (("open", FORTY),)), (0, (("open", (1,)),)), (1, ()), (2, (("open", (1,)),)), (1, (("open", (1, 2)),)),
    (39, (("closed", FORTY),)), (40, (("closed", FORTY[:39]),)), (40, ()), (100, ()),
    # A piece twice, missing, with both signs, 0, too great or too small.
    (1, (("open", (1, 1)),)), (1, (("open", (1,)), ("open", (1,)))), (2, (("closed", (1, 1)),)),
    (2, (("open", (1, 2)), ("closed", (2,)))), (3, (("open", (1, 3)),)), (3, (("open", (1,)), ("closed", (3, 3)))),
    (1, (("open", (1, -1)),)), (2, (("open", (1,)), ("open", (-1,)))), (2, (("closed", (2, -2)),)),
    (1, (("open", (1,)), ("closed", (-1,)))), (1, (("open", (0,)),)), (1, (("open", (0, 1)),)), (0, (("open", (0,)),)),
    (2, (("open", (1, 0)),)), (1, (("closed", (2,)),)), (1, (("closed", (-2,)),)), (2, (("open", (1, 3)),)),
    (2, (("open", (-3, 2)),)), (1, (("open", (HUGE,)),)), (2, (("open", (1, -HUGE)),)),
    (40, (("open", FORTY[:39] + (-1,)),)), (40, (("open", FORTY[:39] + (41,)),)), (40, (("open", FORTY + (41,)),)),
    (40, (("open", FORTY), ("closed", NEGATIVE))), (40, (("open", FORTY[:39] + (0,)),)),
    # Strands without a piece.
    (0, (("open", ()),)), (0, (("closed", ()),)), (1, (("open", (1,)), ("open", ()))),
    (1, (("closed", ()), ("open", (1,)))),
    # Other words.
    (1, (("", (1,)),)), (1, (("Open", (1,)),)), (1, (("close", (1,)),)), (1, (("ring", (1,)),)), (1, (("ope", (1,)),)),
    (2, (("open", (1,)), ("opened", (2,)))), (0, (("ring", ()),)), (1, (("openclosed", (1,)),)), (1, (("n", (1,)),)),
    # Strands of another length.
    (1, ((),)), (1, (("open",),)), (0, (("open",),)), (1, (("open", (1,), (1,)),)), (1, (("open", (1,), ()),)),
)

# A number of pieces and pairs that are no joints of a body.
BAD_JOINTS = (
    (-1, ()), (41, ()), (41, ((1, 2),)), (HUGE, ()), (-HUGE, ()), (100, ((81, 82),)),
    # An end twice, the two ends of a pair equal, the same pair twice in either order.
    (2, ((1, 2), (2, 3))), (2, ((1, 2), (1, 3))), (2, ((2, 1), (3, 2))), (2, ((3, 2), (3, 1))), (2, ((1, 4), (3, 4))),
    (1, ((1, 1),)), (1, ((2, 2),)), (2, ((1, 2), (4, 4))), (1, ((1, 2), (1, 2))), (1, ((1, 2), (2, 1))),
    (2, ((2, 3), (3, 2))), (2, ((1, 4), (2, 3), (1, 4))), (40, ((1, 80), (2, 79), (80, 1))),
    # An end below 1 or beyond 2 n.
    (1, ((0, 1),)), (1, ((1, 0),)), (1, ((0, 0),)), (0, ((0, 0),)), (1, ((-1, 1),)), (1, ((2, -2),)), (1, ((1, 3),)),
    (1, ((3, 2),)), (0, ((1, 2),)), (2, ((1, 5),)), (2, ((5, 6),)), (40, ((80, 81),)), (40, ((81, 82),)),
    (1, ((1, HUGE),)), (1, ((-HUGE, 1),)), (40, ((-1, -2),)),
    # Pairs of another length.
    (2, ((),)), (2, ((1,),)), (2, ((1, 2, 3),)),
)


class Bodies(unittest.TestCase):
    def check(self, n, read):
        body = Body(n, read)
        joints = strands.joints_by_words(read)
        self.assertEqual(body.n, n)
        self.assertEqual(body.joints(), joints)
        self.assertEqual(body.strands(), strands.normal_by_words(read))
        self.assertEqual(body.loose(), tuple(strands.loose_ends(n, joints)))
        partners = {**{a: b for a, b in joints}, **{b: a for a, b in joints}}
        for end in range(1, 2 * n + 1):
            self.assertEqual(body.partner(end), partners.get(end, 0))
        self.assertEqual({type(body.joints()), type(body.loose()), type(body.strands())}, {tuple})
        for word, pieces in body.strands():
            self.assertIs(type(pieces), tuple)
        self.assertTrue(all(type(pair) is tuple for pair in body.joints() + body.strands()))

    def test_no_piece_one_piece_and_forty(self):
        self.check(0, ())
        for x in (1, -1):
            self.check(1, (("open", (x,)),))
            self.check(1, (("closed", (x,)),))
        for row in (FORTY, NEGATIVE, FORTY[::-1]):
            self.check(40, (("open", row),))
            self.check(40, (("closed", row),))
            self.check(40, tuple([("open", (x,)) for x in row]))
            self.check(40, tuple([("closed", (x,)) for x in row]))

    def test_examples(self):
        body = Body(4, (("closed", (-3,)), ("open", (4, -2, 1))))
        self.assertEqual(body.joints(), ((1, 3), (4, 8), (5, 6)))
        self.assertEqual(body.loose(), (2, 7))
        self.assertEqual([body.partner(end) for end in range(1, 9)], [3, 0, 1, 8, 6, 5, 0, 4])
        self.assertEqual(body.strands(), (("open", (-1, 2, -4)), ("closed", (3,))))
        self.assertEqual(Body(1, (("closed", (-1,)),)).joints(), ((1, 2),))
        self.assertEqual(Body(2, (("closed", (1, 2)),)).joints(), ((1, 4), (2, 3)))
        self.assertEqual(Body(2, (("closed", (1, -2)),)).joints(), ((1, 3), (2, 4)))
        self.assertEqual(Body(2, (("open", (1, 2)),)).joints(), ((2, 3),))
        self.assertEqual(Body(2, (("open", (2, 1)),)).joints(), ((1, 4),))

    def test_all_bodies_of_few_pieces(self):
        for n in range(5):
            found = set()
            for joints in strands.all_joints(n):
                read = body_of(n, joints).strands()
                self.check(n, read)
                found.add(read)
            self.assertEqual(len(found), len(strands.all_joints(n)))

    def test_many_bodies(self):
        for n in (2, 3, 5, 8, 13, 27, 40):
            for seed in range(20):
                self.check(n, strands.some_strands(n, seed))

    def test_bad_bodies(self):
        for at, (n, read) in enumerate(BAD_BODIES):
            with self.assertRaises(InvalidBody, msg=at):
                Body(n, read)


class NormalForm(unittest.TestCase):
    def test_each_kind_of_strand_from_all_readings(self):
        for strand, normal in (
            (("closed", (3, -1, 2)), ("closed", (1, -3, -2))), (("closed", (-1,)), ("closed", (1,))),
            (("closed", (2, -1, -3)), ("closed", (1, -2, 3))), (("open", (3, -1, 2)), ("open", (-2, 1, -3))),
            (("open", (-1,)), ("open", (1,))), (("open", (-2, 1, 3)), ("open", (-2, 1, 3))),
            (("open", (2, -1)), ("open", (1, -2))), (("open", (-2, -1)), ("open", (1, 2))),
            (("closed", (2, -1)), ("closed", (1, -2))), (("open", (3, 2, 1)), ("open", (-1, -2, -3))),
        ):
            for reading in strands.readings(strand):
                self.assertEqual(Body(len(strand[1]), (reading,)).strands(), (normal,))

    def test_strands_in_any_order(self):
        read = (("closed", (5, 2)), ("open", (-1,)), ("open", (6, 4, 3)), ("closed", (-7,)))
        normal = (("open", (1,)), ("closed", (2, 5)), ("open", (-3, -4, -6)), ("closed", (7,)))
        for order in itertools.permutations(read):
            self.assertEqual(Body(7, order).strands(), normal)
            for kinds in itertools.product(*[strands.readings(strand) for strand in order]):
                self.assertEqual(Body(7, kinds).strands(), normal)

    def test_it_gives_the_same_body(self):
        for body in strands.some_bodies():
            self.assertEqual(Body(body.n, body.strands()), body)
            self.assertEqual(Body(body.n, body.strands()).strands(), body.strands())


class SameBody(unittest.TestCase):
    def test_read_otherwise(self):
        for n in (1, 2, 5, 13, 40):
            for seed in range(8):
                read = strands.some_strands(n, seed)
                chance = random.Random(seed)
                other = [chance.choice(strands.readings(strand)) for strand in chance.sample(read, len(read))]
                self.assertTrue(Body(n, read) == Body(n, tuple(other)))
                self.assertFalse(Body(n, read) != Body(n, tuple(other)))

    def test_other_joints(self):
        for n in range(4):
            bodies = [body_of(n, joints) for joints in strands.all_joints(n)]
            for k, body in enumerate(bodies):
                for l, other in enumerate(bodies):
                    self.assertIs(body == other, k == l)

    def test_another_number_of_pieces(self):
        for n, m in ((0, 1), (1, 2), (39, 40)):
            self.assertFalse(body_of(n, ()) == body_of(m, ()))
            self.assertFalse(body_of(m, ()) == body_of(n, ()))
            self.assertTrue(body_of(n, ()) != body_of(m, ()))
        self.assertFalse(body_of(1, ((1, 2),)) == body_of(2, ((1, 2),)))

    def test_nothing_else(self):
        for body in (body_of(0, ()), body_of(1, ((1, 2),)), body_of(2, ((2, 3),))):
            for other in (None, 0, 1, "", "body", (), body.strands(), body.joints(), [body], (body.n, body.strands())):
                self.assertIs(body == other, False)
                self.assertIs(other == body, False)


class BodyOf(unittest.TestCase):
    def test_all_bodies_of_few_pieces(self):
        for n in range(5):
            for joints in strands.all_joints(n):
                body = body_of(n, joints)
                self.assertEqual(body.n, n)
                self.assertEqual(body.joints(), joints)
                self.assertEqual(strands.joints_by_words(body.strands()), joints)

    def test_pairs_in_any_order(self):
        for n in (1, 2, 5, 13, 40):
            for joints in strands.some_joints(n, 8):
                body = body_of(n, joints)
                self.assertEqual(body.joints(), joints)
                chance = random.Random(n)
                pairs = [chance.choice((pair, pair[::-1])) for pair in chance.sample(joints, len(joints))]
                self.assertEqual(body_of(n, pairs), body)
                self.assertEqual(body_of(n, tuple(pairs)), body)
                self.assertEqual(body_of(n, [pair[::-1] for pair in joints]).joints(), joints)

    def test_of_the_joints_of_a_body(self):
        for body in strands.some_bodies():
            self.assertEqual(body_of(body.n, body.joints()), body)
            self.assertEqual(body_of(body.n, list(body.joints())[::-1]), body)

    def test_later_changes_of_the_list_change_nothing(self):
        pairs = [(1, 2), (3, 6)]
        body = body_of(3, pairs)
        self.assertEqual(pairs, [(1, 2), (3, 6)])
        pairs[0] = (4, 5)
        pairs.append((1, 2))
        self.assertEqual(body.joints(), ((1, 2), (3, 6)))

    def test_bad_joints(self):
        for at, (n, pairs) in enumerate(BAD_JOINTS):
            for joints in (pairs, list(pairs), pairs[::-1]):
                with self.assertRaises(InvalidBody, msg=at):
                    body_of(n, joints)

    def test_all_pairs_of_two_ends(self):
        for a in range(-2, 7):
            for b in range(-2, 7):
                if a != b and a in (1, 2, 3, 4) and b in (1, 2, 3, 4):
                    self.assertEqual(body_of(2, ((a, b),)).joints(), ((min(a, b), max(a, b)),))
                else:
                    with self.assertRaises(InvalidBody):
                        body_of(2, ((a, b),))


if __name__ == "__main__":
    unittest.main()
