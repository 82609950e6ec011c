"""moves.py: point 1.2."""

import itertools
import unittest

from tests import helpers
from turnedrows.errors import InvalidMove, InvalidRow
from turnedrows.moves import do_move, do_script

KINDS = {"swap": 2, "next": 1, "take": 2, "flip": 2, "blocks": 4}
ROW = (3, 1, 4, 2, 5)
FORTY = tuple(range(1, 41))


class DoMove(unittest.TestCase):
    def check(self, row, move, there):
        self.assertEqual(do_move(row, move), there)
        self.assertIs(type(do_move(row, move)), tuple)

    def refuse(self, row, move):
        with self.assertRaises(InvalidMove, msg=(row, move[:1])):
            do_move(row, move)
        with self.assertRaises(InvalidMove):
            do_script(row, (move,))

    def test_swap(self):
        self.check(ROW, ("swap", 0, 4), (5, 1, 4, 2, 3))
        self.check(ROW, ("swap", 1, 2), (3, 4, 1, 2, 5))
        self.check(ROW, ("swap", 3, 4), (3, 1, 4, 5, 2))
        self.check((1, 2), ("swap", 0, 1), (2, 1))
        self.check(FORTY, ("swap", 0, 39), (40,) + FORTY[1:39] + (1,))

    def test_next(self):
        self.check(ROW, ("next", 0), (1, 3, 4, 2, 5))
        self.check(ROW, ("next", 3), (3, 1, 4, 5, 2))
        self.check((1, 2), ("next", 0), (2, 1))
        self.check(FORTY, ("next", 38), FORTY[:38] + (40, 39))

    def test_take(self):
        self.check(ROW, ("take", 0, 4), (1, 4, 2, 5, 3))
        self.check(ROW, ("take", 4, 0), (5, 3, 1, 4, 2))
        self.check(ROW, ("take", 1, 3), (3, 4, 2, 1, 5))
        self.check(ROW, ("take", 3, 1), (3, 2, 1, 4, 5))
        self.check(ROW, ("take", 2, 3), (3, 1, 2, 4, 5))
        self.check((1, 2), ("take", 1, 0), (2, 1))
        self.check(FORTY, ("take", 39, 0), (40,) + FORTY[:39])

    def test_flip(self):
        self.check(ROW, ("flip", 0, 4), (5, 2, 4, 1, 3))
        self.check(ROW, ("flip", 0, 1), (1, 3, 4, 2, 5))
        self.check(ROW, ("flip", 1, 3), (3, 2, 4, 1, 5))
        self.check(ROW, ("flip", 2, 4), (3, 1, 5, 2, 4))
        self.check(FORTY, ("flip", 0, 39), FORTY[::-1])

    def test_blocks(self):
        self.check(ROW, ("blocks", 0, 1, 4, 5), (5, 1, 4, 2, 3))
        self.check(ROW, ("blocks", 0, 2, 2, 5), (4, 2, 5, 3, 1))
        self.check(ROW, ("blocks", 0, 2, 3, 4), (2, 4, 3, 1, 5))
        self.check(ROW, ("blocks", 1, 2, 3, 5), (3, 2, 5, 4, 1))
        self.check(ROW, ("blocks", 1, 2, 2, 3), (3, 4, 1, 2, 5))
        self.check((1, 2), ("blocks", 0, 1, 1, 2), (2, 1))
        self.check(FORTY, ("blocks", 0, 1, 1, 40), FORTY[1:] + (1,))

    def test_all_moves_and_no_others_in_short_rows(self):
        for n in range(6):
            row = helpers.some_rows(n, 1)[0]
            for kind in KINDS:
                good = set(helpers.plain_moves(kind, n))
                numbers = range(-2, n + 3) if n < 5 else range(-1, n + 2)
                for places in itertools.product(numbers, repeat=KINDS[kind]):
                    move = (kind, *places)
                    if move in good:
                        self.check(row, move, helpers.after(row, move))
                    else:
                        with self.assertRaises(InvalidMove):
                            do_move(row, move)

    def test_no_move_in_rows_of_no_and_of_one_piece(self):
        for row in ((), (1,)):
            for kind in KINDS:
                self.refuse(row, (kind, *range(KINDS[kind])))
                self.refuse(row, (kind,) + (0,) * KINDS[kind])
            self.refuse(row, ("blocks", 0, 1, 1, 2))
            self.refuse(row, ("blocks", 0, 1, 1, 1))
            self.refuse(row, ("blocks", 0, 0, 0, 1))

    def test_other_words(self):
        words = ("", "turn", "recut", "cut", "join", "single", "swaps", "Swap", "swa", " swap", "block", "sorted", "0")
        for word in words:
            for many in range(6):
                self.refuse(ROW, (word, *range(many)))
        self.refuse(ROW, ())
        self.refuse((), ())

    def test_too_few_and_too_many_numbers(self):
        for kind in KINDS:
            for many in range(8):
                if many != KINDS[kind]:
                    self.refuse(ROW, (kind, *range(many)))
                    self.refuse(FORTY, (kind, *range(many)))
                    self.refuse(FORTY, (kind, 0, 1, 1, 2, 2, 3, 3)[:1 + many])

    def test_places_out_of_order_or_equal(self):
        for move in (
            ("swap", 2, 1), ("swap", 4, 0), ("swap", 3, 3), ("flip", 2, 1), ("flip", 4, 0), ("flip", 3, 3),
            ("take", 0, 0), ("take", 4, 4), ("blocks", 1, 1, 2, 3), ("blocks", 0, 1, 3, 3), ("blocks", 0, 2, 1, 3),
            ("blocks", 2, 3, 0, 1), ("blocks", 1, 0, 2, 3), ("blocks", 0, 1, 3, 2), ("blocks", 5, 5, 5, 5),
        ):
            self.refuse(ROW, move)
            self.refuse(FORTY, move)

    def test_places_below_zero_or_too_great(self):
        for row in (ROW, FORTY):
            n = len(row)
            for low in (-1, -n, -n - 1, -helpers.HUGE):
                for move in (
                    ("swap", low, 1), ("next", low), ("take", low, 1), ("take", 1, low), ("flip", low, 1),
                    ("blocks", low, 1, 1, 2), ("swap", low, -1), ("flip", low, -1), ("blocks", low, -1, 0, 1),
                ):
                    self.refuse(row, move)
            for great in (n, n + 1, helpers.HUGE):
                for move in (
                    ("swap", 1, great), ("next", great), ("next", great - 1), ("take", great, 1),
                    ("take", 1, great), ("flip", 1, great), ("blocks", 0, 1, 1, great + 1),
                    ("blocks", 0, 1, great, great + 1),
                ):
                    self.refuse(row, move)

    def test_the_row_comes_ahead_of_the_move(self):
        for bad in helpers.BAD_ROWS:
            for move in (("swap", 0, 1), ("next", 0), ("swap", 1, 0), ("turn", 0, 0), ()):
                with self.assertRaises(InvalidRow):
                    do_move(bad, move)
                with self.assertRaises(InvalidRow):
                    do_script(bad, (move,))
            with self.assertRaises(InvalidRow):
                do_script(bad, ())

    def test_the_given_row_stays(self):
        row = tuple(list(ROW))
        for kind in KINDS:
            for move in helpers.plain_moves(kind, 5):
                do_move(row, move)
        self.assertEqual(row, (3, 1, 4, 2, 5))


class DoScript(unittest.TestCase):
    def test_no_move(self):
        for n in (0, 1, 2, 40):
            row = helpers.some_rows(n, 1)[0]
            self.assertEqual(do_script(row, ()), row)

    def test_several_kinds(self):
        moves = (("swap", 0, 4), ("next", 1), ("take", 4, 0), ("flip", 0, 2), ("blocks", 0, 1, 2, 5))
        # 31425 51423 54123 35412 45312 31254, one line of pieces after each move.
        self.assertEqual(do_script(ROW, moves), (3, 1, 2, 5, 4))
        for many in range(len(moves) + 1):
            self.assertEqual(do_script(ROW, moves[:many]), helpers.after_all(ROW, moves[:many]))

    def test_long_scripts(self):
        moves = [move for kind in KINDS for move in helpers.plain_moves(kind, 7)]
        for row in helpers.some_rows(7, 3):
            self.assertEqual(do_script(row, tuple(moves)), helpers.after_all(row, moves))

    def test_a_bad_move_among_good_ones(self):
        good = (("swap", 0, 1), ("next", 0), ("take", 0, 4))
        for bad in (("swap", 1, 0), ("next", 4), ("take", 1, 1), ("flip", 0, 5), ("turn", 0, 1), ("next",), ()):
            for at in range(4):
                with self.assertRaises(InvalidMove):
                    do_script(ROW, good[:at] + (bad,) + good[at:])
        self.assertEqual(ROW, (3, 1, 4, 2, 5))


if __name__ == "__main__":
    unittest.main()
