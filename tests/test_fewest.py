"""fewest.py: the nine kinds, points 1.5, 1.7, 2.6, 2.7 and 3.5."""

import unittest

from tests import helpers
from tests.helpers import FORTY, NEGATIVE
from tests.kinds import OTHER_KINDS, check_refuses_kind, pairs_of
from turnedrows import blocks, closed, flips, nexts, recuts, singles, swaps, takes, turns
from turnedrows.bodies import body_of
from turnedrows.errors import OutOfRange
from turnedrows.fewest import least, script

FUNCTIONS = {
    "swap": (swaps.least_swaps, swaps.swap_script),
    "next": (nexts.least_nexts, nexts.next_script),
    "take": (takes.least_takes, takes.take_script),
    "blocks": (blocks.least_blocks, blocks.block_script),
    "flip": (flips.least_flips, flips.flip_script),
    "turn": (turns.least_turns, turns.turn_script),
    "closed": (closed.least_closed_turns, closed.closed_turn_script),
    "recut": (recuts.least_recuts, recuts.recut_script),
    "single": (singles.least_singles, singles.single_script),
}


class Fewest(unittest.TestCase):
    def test_what_the_functions_of_the_kind_tell(self):
        for kind, (count, find) in FUNCTIONS.items():
            for first, second in pairs_of(kind):
                self.assertEqual(least(kind, first, second), count(first, second))
                self.assertEqual(script(kind, first, second), find(first, second))
                self.assertEqual(len(script(kind, first, second)), least(kind, first, second))

    def test_examples(self):
        row = (3, 1, 4, 2)
        self.assertEqual([least(kind, row, (1, 2, 3, 4)) for kind in ("swap", "next", "take", "blocks", "flip")], [3, 3, 2, 2, 3])
        self.assertEqual(least("turn", (3, -1, 2), (1, 2, 3)), 3)
        self.assertEqual(least("closed", (3, 2, 1), (1, 2, 3)), 3)
        self.assertEqual(least("closed", (1, 2, 3), (-2, -1, -3)), 0)
        first, second = body_of(3, ((2, 3), (4, 5))), body_of(3, ((2, 4), (3, 5), (1, 6)))
        self.assertEqual((least("recut", first, second), least("single", first, second)), (2, 5))

    def test_long_rows(self):
        for first, second in zip(helpers.some_signed(40, 3, 1), helpers.some_signed(40, 3, 2)):
            self.assertEqual(least("turn", first, second), turns.least_turns(first, second))
            self.assertEqual(least("closed", first, second), closed.least_closed_turns(first, second))


class Refused(unittest.TestCase):
    def test_another_kind_ahead_of_all(self):
        for kind in OTHER_KINDS:
            for first, second in (
                ((1, 2), (2, 1)), ((1, 1), (1, 2)), ((1,), (1, 2)), ((), ()), ((0,), (0, 0)), ((1, -2), (-2, 1)),
                (body_of(1, ()), body_of(1, ())), (body_of(1, ()), body_of(2, ())),
            ):
                for function in (least, script):
                    with self.assertRaises(OutOfRange):
                        function(kind, first, second)

    def test_bad_rows_and_bodies(self):
        for kind in FUNCTIONS:
            for function in (least, script):
                check_refuses_kind(self, kind, function)

    def test_bounds_of_the_kinds(self):
        for n in (8, 9, 13, 40):
            for function in (least, script):
                with self.assertRaises(OutOfRange):
                    function("flip", FORTY[:n], FORTY[:n][::-1])
        for n in (13, 14, 40):
            self.assertEqual(least("turn", FORTY[:n], FORTY[:n]), 0)
            with self.assertRaises(OutOfRange):
                script("turn", FORTY[:n], FORTY[:n])
            with self.assertRaises(OutOfRange):
                script("turn", FORTY[:n], NEGATIVE[:n])
        for n in (14, 15, 40):
            self.assertEqual(least("closed", FORTY[:n], FORTY[:n]), 0)
            with self.assertRaises(OutOfRange):
                script("closed", FORTY[:n], FORTY[:n])
            with self.assertRaises(OutOfRange):
                script("closed", FORTY[:n], NEGATIVE[:n])


if __name__ == "__main__":
    unittest.main()
