"""cuts.py: point 3.4."""

import itertools
import unittest

from tests import strands
from tests.helpers import HUGE
from turnedrows.bodies import Body, body_of
from turnedrows.cuts import do_cut, do_cuts
from turnedrows.errors import InvalidMove

# Its joints are (1, 3), (4, 8) and (5, 6); its ends 2 and 7 are loose, and so are 9 and 10.
BODY = Body(5, (("open", (-1, 2, -4)), ("closed", (3,)), ("open", (5,))))


class DoCut(unittest.TestCase):
    def check(self, body, move, joints):
        before = body.joints()
        there = do_cut(body, move)
        self.assertIs(type(there), Body)
        self.assertEqual(there.n, body.n)
        self.assertEqual(there.joints(), tuple(sorted(joints)))
        self.assertEqual(there, body_of(body.n, joints))
        self.assertEqual(do_cuts(body, (move,)), there)
        # The body that was given stays.
        self.assertEqual(body.joints(), before)

    def refuse(self, body, move):
        with self.assertRaises(InvalidMove):
            do_cut(body, move)
        with self.assertRaises(InvalidMove):
            do_cuts(body, (move,))

    def test_recut_of_two_joints(self):
        self.check(BODY, ("recut", 1, 3, 4, 8), ((1, 4), (3, 8), (5, 6)))
        self.check(BODY, ("recut", 3, 1, 4, 8), ((3, 4), (1, 8), (5, 6)))
        self.check(BODY, ("recut", 1, 3, 8, 4), ((1, 8), (3, 4), (5, 6)))
        self.check(BODY, ("recut", 3, 1, 8, 4), ((3, 8), (1, 4), (5, 6)))
        self.check(BODY, ("recut", 6, 5, 1, 3), ((1, 6), (3, 5), (4, 8)))

    def test_recut_of_a_joint_and_a_loose_end(self):
        self.check(BODY, ("recut", 1, 3, 2, 0), ((1, 2), (4, 8), (5, 6)))
        self.check(BODY, ("recut", 1, 3, 0, 2), ((2, 3), (4, 8), (5, 6)))
        self.check(BODY, ("recut", 3, 1, 2, 0), ((2, 3), (4, 8), (5, 6)))
        self.check(BODY, ("recut", 2, 0, 1, 3), ((1, 2), (4, 8), (5, 6)))
        self.check(BODY, ("recut", 0, 2, 1, 3), ((2, 3), (4, 8), (5, 6)))
        self.check(BODY, ("recut", 0, 10, 6, 5), ((1, 3), (4, 8), (5, 10)))

    def test_recut_of_two_loose_ends(self):
        self.check(BODY, ("recut", 2, 0, 7, 0), ((1, 3), (2, 7), (4, 8), (5, 6)))
        self.check(BODY, ("recut", 0, 7, 0, 2), ((1, 3), (2, 7), (4, 8), (5, 6)))
        self.check(BODY, ("recut", 9, 0, 10, 0), ((1, 3), (4, 8), (5, 6), (9, 10)))
        # The pairs that come are the two ends with 0 again.
        self.check(BODY, ("recut", 2, 0, 0, 7), BODY.joints())
        self.check(BODY, ("recut", 0, 2, 7, 0), BODY.joints())

    def test_recut_with_twice_nothing(self):
        self.check(BODY, ("recut", 1, 3, 0, 0), ((4, 8), (5, 6)))
        self.check(BODY, ("recut", 0, 0, 3, 1), ((4, 8), (5, 6)))
        self.check(BODY, ("recut", 6, 5, 0, 0), ((1, 3), (4, 8)))
        for move in (("recut", 2, 0, 0, 0), ("recut", 0, 2, 0, 0), ("recut", 0, 0, 2, 0), ("recut", 0, 0, 0, 2)):
            self.check(BODY, move, BODY.joints())

    def test_cut(self):
        self.check(BODY, ("cut", 1, 3), ((4, 8), (5, 6)))
        self.check(BODY, ("cut", 5, 6), ((1, 3), (4, 8)))
        self.check(body_of(1, ((1, 2),)), ("cut", 1, 2), ())

    def test_join(self):
        self.check(BODY, ("join", 2, 7), ((1, 3), (2, 7), (4, 8), (5, 6)))
        self.check(BODY, ("join", 9, 10), ((1, 3), (4, 8), (5, 6), (9, 10)))
        self.check(body_of(1, ()), ("join", 1, 2), ((1, 2),))

    def test_all_moves_and_no_others_of_few_pieces(self):
        for n in range(3):
            for joints in strands.all_joints(n):
                body = body_of(n, joints)
                moves = {**strands.recuts_by_words(n, joints), **strands.singles_by_words(n, joints)}
                numbers = range(-1, 2 * n + 2)
                tried = [("recut", *ends) for ends in itertools.product(numbers, repeat=4)]
                tried += [(word, a, b) for word in ("cut", "join") for a in numbers for b in numbers]
                self.assertLessEqual(set(moves), set(tried))
                for move in tried:
                    if move in moves:
                        self.assertEqual(do_cut(body, move).joints(), moves[move], move)
                    else:
                        with self.assertRaises(InvalidMove, msg=move):
                            do_cut(body, move)

    def test_moves_of_longer_bodies(self):
        for n in (5, 40):
            for joints in strands.some_joints(n, 4):
                body = body_of(n, joints)
                moves = {**strands.recuts_by_words(n, joints), **strands.singles_by_words(n, joints)}
                for move in list(moves)[::len(moves) // 100 + 1]:
                    self.check(body, move, moves[move])

    def test_other_words(self):
        for word in ("", "swap", "turn", "blocks", "single", "Recut", "cuts", "joins", "recu", "open", "recutjoin"):
            for ends in ((), (1,), (1, 3), (2, 7), (1, 3, 4, 8), (2, 0, 7, 0)):
                self.refuse(BODY, (word, *ends))
        self.refuse(BODY, ())

    def test_too_few_and_too_many_numbers(self):
        for ends in ((), (1,), (1, 3), (1, 3, 4), (1, 3, 4, 8, 0), (1, 3, 4, 8, 5, 6), (2, 7), (1, 3, 0)):
            self.refuse(BODY, ("recut", *ends))
        for ends in ((), (1,), (1, 3, 0), (1, 3, 4, 8), (1, 3, 0, 0)):
            self.refuse(BODY, ("cut", *ends))
        for ends in ((), (2,), (2, 7, 0), (2, 0, 7, 0), (2, 7, 9, 10)):
            self.refuse(BODY, ("join", *ends))

    def test_bad_recuts(self):
        for ends in (
            (1, 4, 3, 8), (1, 3, 4, 7), (4, 3, 0, 0), (2, 7, 0, 0), (2, 7, 1, 3), (1, 0, 0, 0), (0, 3, 0, 0),
            (1, 0, 3, 0), (2, 0, 4, 0), (1, 0, 4, 8), (2, 0, 0, 5), (1, 1, 0, 0), (2, 2, 0, 0),
            (1, 3, 1, 3), (1, 3, 3, 1), (2, 0, 2, 0), (2, 0, 0, 2), (9, 0, 9, 0), (0, 0, 0, 0),
            (-1, 3, 0, 0), (1, -3, 0, 0), (-1, 0, 0, 0), (11, 0, 0, 0), (2, 0, 11, 0), (2, 0, 0, 11), (11, 12, 0, 0),
            (1, 3, 11, 0), (1, 3, -2, 0), (1, HUGE, 0, 0), (HUGE, 0, 0, 0), (-HUGE, 0, 0, 0), (1, 3, 0, HUGE),
            (-11, 0, 0, 0), (1, 3, 0, -5), (1, 3, -4, 8), (-8, 4, 1, 3),
        ):
            self.refuse(BODY, ("recut", *ends))

    def test_bad_cuts(self):
        for ends in (
            (3, 1), (1, 4), (1, 2), (2, 7), (2, 0), (0, 2), (0, 0), (1, 0), (0, 1), (1, 1), (2, 2), (-1, 3), (1, 11),
            (11, 12), (0, 11), (-10, -8), (-8, 3), (1, HUGE), (-HUGE, 1), (8, 4),
        ):
            self.refuse(BODY, ("cut", *ends))

    def test_bad_joins(self):
        for ends in (
            (7, 2), (2, 2), (1, 2), (2, 3), (1, 3), (1, 4), (0, 2), (2, 0), (0, 0), (-1, 2), (2, 11), (11, 12), (0, 11),
            (-2, 7), (-9, 2), (2, HUGE), (-HUGE, 2), (HUGE, HUGE), (10, 9), (-4, -1),
        ):
            self.refuse(BODY, ("join", *ends))

    def test_bodies_without_pieces(self):
        body = body_of(0, ())
        for word, ends in (
            ("recut", (0, 0, 0, 0)), ("recut", (1, 0, 0, 0)), ("cut", (1, 2)), ("join", (1, 2)), ("cut", (0, 0)),
            ("join", (0, 0)),
        ):
            self.refuse(body, (word, *ends))


class DoCuts(unittest.TestCase):
    def test_no_move(self):
        for body in strands.some_bodies(2):
            self.assertEqual(do_cuts(body, ()), body)

    def test_moves_of_both_kinds(self):
        moves = (("cut", 1, 3), ("recut", 1, 0, 2, 0), ("join", 3, 7), ("recut", 3, 7, 8, 4), ("cut", 5, 6))
        there = do_cuts(BODY, moves)
        self.assertEqual(there.joints(), ((1, 2), (3, 8), (4, 7)))
        self.assertEqual(BODY.joints(), ((1, 3), (4, 8), (5, 6)))
        here = BODY
        for move in moves:
            here = do_cut(here, move)
        self.assertEqual(here, there)

    def test_a_bad_one_among_good_ones(self):
        good = (("cut", 1, 3), ("join", 2, 7), ("recut", 4, 8, 5, 6))
        self.assertEqual(do_cuts(BODY, good).joints(), ((2, 7), (4, 5), (6, 8)))
        for bad in (("cut", 1, 4), ("join", 1, 4), ("recut", 0, 0, 0, 0), ("turn", 0, 0), (), ("cut", 9, 10)):
            for at in range(4):
                with self.assertRaises(InvalidMove):
                    do_cuts(BODY, good[:at] + (bad,) + good[at:])
        self.assertEqual(BODY.joints(), ((1, 3), (4, 8), (5, 6)))
        # A move that could be done only before.
        with self.assertRaises(InvalidMove):
            do_cuts(BODY, (("cut", 1, 3), ("cut", 1, 3)))


if __name__ == "__main__":
    unittest.main()
