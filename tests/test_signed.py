"""signed.py: points 2.1, 2.2 and 2.8."""

import itertools
import unittest

from tests import helpers
from tests.helpers import FORTY, NEGATIVE, after_turn, after_turns, signed_rows, some_signed
from turnedrows.errors import InvalidMove, InvalidRow
from turnedrows.signed import breaks, check_signed, do_turn, do_turns, relative_signed

ROW = (3, -1, 4, -2, 5)


class CheckSigned(unittest.TestCase):
    def test_rows_are_returned(self):
        for n in (0, 1, 2, 3, 17, 39, 40):
            for row in some_signed(n, 5) + helpers.some_rows(n, 2):
                self.assertIs(check_signed(row), row)
        for row in ((), (1,), (-1,), (-2, -1), (2, -1), FORTY, NEGATIVE):
            self.assertEqual(check_signed(row), row)

    def test_all_tuples_of_few_numbers(self):
        for n in range(4):
            good = set(signed_rows(n))
            for row in itertools.product(range(-n - 1, n + 2), repeat=n):
                if row in good:
                    self.assertEqual(check_signed(row), row)
                else:
                    with self.assertRaises(InvalidRow):
                        check_signed(row)

    def test_bad_rows(self):
        for bad in helpers.BAD_SIGNED:
            for function in (check_signed, breaks):
                with self.assertRaises(InvalidRow):
                    function(bad)


class DoTurn(unittest.TestCase):
    def check(self, row, move, there):
        self.assertEqual(do_turn(row, move), there)
        self.assertIs(type(do_turn(row, move)), tuple)
        self.assertEqual(do_turns(row, (move,)), there)

    def refuse(self, row, move):
        with self.assertRaises(InvalidMove):
            do_turn(row, move)
        with self.assertRaises(InvalidMove):
            do_turns(row, (move,))

    def test_turns(self):
        self.check(ROW, ("turn", 0, 4), (-5, 2, -4, 1, -3))
        self.check(ROW, ("turn", 1, 3), (3, 2, -4, 1, 5))
        self.check(ROW, ("turn", 0, 1), (1, -3, 4, -2, 5))
        self.check(ROW, ("turn", 3, 4), (3, -1, 4, -5, 2))
        self.check(ROW, ("turn", 0, 0), (-3, -1, 4, -2, 5))
        self.check(ROW, ("turn", 1, 1), (3, 1, 4, -2, 5))
        self.check(ROW, ("turn", 4, 4), (3, -1, 4, -2, -5))
        self.check((1,), ("turn", 0, 0), (-1,))
        self.check(FORTY, ("turn", 0, 39), NEGATIVE[::-1])
        self.check(FORTY, ("turn", 39, 39), FORTY[:39] + (-40,))

    def test_all_turns_and_no_others_in_short_rows(self):
        for n in range(6):
            row = some_signed(n, 1)[0]
            for i in range(-n - 2, n + 3):
                for j in range(-n - 2, n + 3):
                    move = ("turn", i, j)
                    if 0 <= i and i <= j and j <= n - 1:
                        self.check(row, move, after_turn(row, move))
                    else:
                        self.refuse(row, move)

    def test_other_words(self):
        for word in ("", "swap", "next", "take", "flip", "blocks", "recut", "cut", "join", "turns", "Turn", "tur"):
            for many in range(6):
                self.refuse(ROW, (word, *range(many)))
        self.refuse(ROW, ())

    def test_too_few_and_too_many_numbers(self):
        for row in (ROW, FORTY, ()):
            for many in (0, 1, 3, 4, 5):
                self.refuse(row, ("turn", *range(many)))
                self.refuse(row, ("turn",) + (0,) * many)

    def test_wrong_places(self):
        for row in (ROW, FORTY):
            n = len(row)
            for i, j in (
                (1, 0), (n - 1, 0), (n - 1, n - 2), (-1, 0), (-1, -1), (0, -1), (-n, n - 1), (0, n), (n, n), (n - 1, n),
                (n, 0), (-helpers.HUGE, 0), (0, helpers.HUGE), (helpers.HUGE, helpers.HUGE), (-1, helpers.HUGE),
            ):
                self.refuse(row, ("turn", i, j))
        self.refuse((), ("turn", 0, 0))
        self.refuse((), ("turn", 0, -1))

    def test_the_row_comes_ahead_of_the_move(self):
        for bad in helpers.BAD_SIGNED:
            for move in (("turn", 0, 0), ("turn", 1, 0), ("swap", 0, 1), ()):
                with self.assertRaises(InvalidRow):
                    do_turn(bad, move)
                with self.assertRaises(InvalidRow):
                    do_turns(bad, (move,))
            with self.assertRaises(InvalidRow):
                do_turns(bad, ())


class DoTurns(unittest.TestCase):
    def test_no_move(self):
        for n in (0, 1, 2, 40):
            row = some_signed(n, 1)[0]
            self.assertEqual(do_turns(row, ()), row)

    def test_several_moves(self):
        # 3 -1 4 -2 5, then 3 2 -4 1 5, then 4 -2 -3 1 5.
        self.assertEqual(do_turns(ROW, (("turn", 1, 3), ("turn", 0, 2))), (4, -2, -3, 1, 5))
        moves = tuple([("turn", i, j) for j in range(40) for i in range(j, -1, -7)])
        for row in some_signed(40, 3):
            self.assertEqual(do_turns(row, moves), after_turns(row, moves))

    def test_a_bad_move_among_good_ones(self):
        good = (("turn", 0, 1), ("turn", 2, 2), ("turn", 0, 4))
        for bad in (("turn", 1, 0), ("turn", 0, 5), ("turn", -1, 0), ("turn", 0), ("swap", 0, 1), ()):
            for at in range(4):
                with self.assertRaises(InvalidMove):
                    do_turns(ROW, good[:at] + (bad,) + good[at:])
        self.assertEqual(ROW, (3, -1, 4, -2, 5))


class RelativeSigned(unittest.TestCase):
    def check_words(self, first, second):
        row = relative_signed(first, second)
        self.assertIs(type(row), tuple)
        self.assertEqual(len(row), len(first))
        for p in range(len(first)):
            q = abs(row[p]) - 1
            self.assertEqual(second[q], first[p] if row[p] > 0 else -first[p])

    def test_examples(self):
        self.assertEqual(relative_signed((), ()), ())
        self.assertEqual(relative_signed((1,), (-1,)), (-1,))
        self.assertEqual(relative_signed((-1,), (-1,)), (1,))
        self.assertEqual(relative_signed((3, -1, 2), (1, 2, 3)), (3, -1, 2))
        self.assertEqual(relative_signed((3, -1, 2), (-2, -3, 1)), (-2, -3, -1))
        self.assertEqual(relative_signed((1, -2, 3), (-2, 3, -1)), (-3, 1, 2))

    def test_its_words_for_many_pairs(self):
        for n in range(4):
            for first in signed_rows(n):
                for second in signed_rows(n):
                    self.check_words(first, second)
        for n in (4, 11, 40):
            for first, second in zip(some_signed(n, 20, 1), some_signed(n, 20, 2)):
                self.check_words(first, second)
                self.assertEqual(relative_signed(first, first), tuple(range(1, n + 1)))

    def test_bad_rows(self):
        for bad in helpers.BAD_SIGNED:
            for good in ((), (1,), (-2, 1), FORTY):
                with self.assertRaises(InvalidRow):
                    relative_signed(bad, good)
                with self.assertRaises(InvalidRow):
                    relative_signed(good, bad)
            with self.assertRaises(InvalidRow):
                relative_signed(bad, bad)

    def test_different_lengths(self):
        for n, m in ((0, 1), (1, 2), (2, 4), (39, 40), (0, 40)):
            for first, second in ((FORTY[:n], NEGATIVE[:m]), (NEGATIVE[:m], FORTY[:n])):
                with self.assertRaises(InvalidRow):
                    relative_signed(first, second)


class Breaks(unittest.TestCase):
    def test_examples(self):
        self.assertEqual(breaks(()), 0)
        self.assertEqual(breaks((1,)), 0)
        self.assertEqual(breaks((-1,)), 2)
        self.assertEqual(breaks((2, 1)), 3)
        self.assertEqual(breaks((-2, -1)), 2)
        self.assertEqual(breaks((1, -2)), 2)
        self.assertEqual(breaks((2, 3, 1)), 3)
        self.assertEqual(breaks((-3, -2, -1)), 2)
        self.assertEqual(breaks(FORTY), 0)
        self.assertEqual(breaks(NEGATIVE), 41)
        self.assertEqual(breaks(NEGATIVE[::-1]), 2)
        self.assertEqual(breaks(FORTY[::-1]), 41)
        self.assertEqual(breaks(FORTY[1:] + (1,)), 3)

    def test_its_words(self):
        rows = [row for n in range(5) for row in signed_rows(n)] + some_signed(40, 20)
        for row in rows:
            count = 0
            before = 0
            for x in row + (len(row) + 1,):
                count += x - before != 1
                before = x
            self.assertEqual(breaks(row), count)


if __name__ == "__main__":
    unittest.main()
