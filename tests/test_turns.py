"""turns.py: points 2.1 and 2.6."""

import unittest

from tests import drawings, helpers
from tests.helpers import FORTY, NEGATIVE, signed_rows, some_rows, some_signed
from turnedrows.errors import InvalidRow, OutOfRange
from turnedrows.turns import least_turns, turn_script


def pairs_up_to(most):
    """Pairs of rows of at most so many pieces, with and without a minus, of which several have bad parts."""
    pairs = []
    for n in range(most + 1):
        pairs.extend(zip(some_signed(n, 5, 1), some_signed(n, 5, 2)))
        pairs.extend(zip(some_rows(n, 5, 1), some_rows(n, 5, 2)))
        pairs.extend([(FORTY[:n], FORTY[:n]), (NEGATIVE[:n], FORTY[:n]), (FORTY[:n], FORTY[:n][::-1])])
    for row in drawings.SPECIAL:
        n = len(row)
        if n <= most:
            pairs.extend([(row, FORTY[:n]), (FORTY[:n], row)])
            # The same relative row, from another first one.
            second = some_signed(n, 1)[0]
            signs = [second[abs(x) - 1] if x > 0 else -second[abs(x) - 1] for x in row]
            pairs.append((tuple(signs), second))
    return pairs


class LeastTurns(unittest.TestCase):
    def test_all_pairs_of_rows_of_few_pieces(self):
        for n in range(5):
            for first in signed_rows(n):
                found = helpers.search_turns(first)
                self.assertEqual(len(found), len(signed_rows(n)))
                for second in found:
                    self.assertEqual(least_turns(first, second), found[second], (first, second))

    def test_all_rows_of_five_and_six_pieces(self):
        for n in (5, 6):
            ordered = FORTY[:n]
            found = helpers.search_turns(ordered)
            self.assertEqual(len(found), len(signed_rows(n)))
            for row in signed_rows(n)[::n - 4]:
                self.assertEqual(least_turns(row, ordered), found[row], row)
                self.assertEqual(least_turns(ordered, row), found[row], row)

    def test_examples(self):
        self.assertEqual(least_turns((), ()), 0)
        self.assertEqual(least_turns((1,), (1,)), 0)
        self.assertEqual(least_turns((1,), (-1,)), 1)
        self.assertEqual(least_turns((2, 1), (1, 2)), 3)
        self.assertEqual(least_turns((3, 2, 1), (1, 2, 3)), 3 + 1 - 2 + 1)
        self.assertEqual(least_turns((2, 1, 3, 5, 4), (1, 2, 3, 4, 5)), 6 - 2 + 2)

    def test_hurdles_and_fortresses(self):
        # Each bad part here has three lines in one ring.
        for many in range(2, 14):
            row = drawings.side_by_side(many)
            self.assertEqual(least_turns(row, FORTY[:len(row)]), 3 * many - many + many)
        for many in range(2, 7):
            row = drawings.with_nested(many)
            fortress = 1 if many in (3, 5) else 0
            self.assertEqual(least_turns(row, FORTY[:len(row)]), 6 * many - 2 * many + many + fortress)

    def test_down_from_a_fortress(self):
        row = drawings.FORTRESS
        ordered = FORTY[:len(row)]
        left = least_turns(row, ordered)
        while left > 0:
            reached = [helpers.after_turn(row, move) for move in helpers.all_turns(len(row))]
            least = [least_turns(there, ordered) for there in reached]
            # No turn leads nearer by more than one.
            self.assertEqual(min(least), left - 1)
            row = reached[least.index(left - 1)]
            left -= 1
        self.assertEqual(row, ordered)

    def test_the_way_back(self):
        for n in (1, 2, 7, 13, 24, 39, 40, 40):
            for first, second in zip(some_signed(n, 15, 3), some_signed(n, 15, 4)):
                self.assertEqual(least_turns(first, second), least_turns(second, first))
            for first, second in zip(some_rows(n, 15, 3), some_rows(n, 15, 4)):
                self.assertEqual(least_turns(first, second), least_turns(second, first))
                self.assertEqual(least_turns(first, first), 0)
        for row in drawings.many_rows():
            ordered = FORTY[:len(row)]
            self.assertEqual(least_turns(row, ordered), least_turns(ordered, row))

    def test_one_turn_changes_it_by_one_at_most(self):
        for row, second in zip(some_signed(40, 3, 5), some_signed(40, 3, 6)):
            least = least_turns(row, second)
            for move in helpers.all_turns(40)[::5]:
                self.assertIn(least_turns(helpers.after_turn(row, move), second), (least - 1, least, least + 1))

    def test_long_rows(self):
        self.assertEqual(least_turns(FORTY, FORTY), 0)
        self.assertEqual(least_turns(NEGATIVE[::-1], FORTY), 1)
        self.assertEqual(least_turns(NEGATIVE, FORTY), 40)
        self.assertEqual(least_turns(FORTY[:10] + NEGATIVE[10:20][::-1] + FORTY[20:], FORTY), 1)

    def test_bad_rows(self):
        helpers.check_refuses_signed(self, InvalidRow, least_turns)


class TurnScript(unittest.TestCase):
    def check(self, first, second):
        moves = turn_script(first, second)
        self.assertIs(type(moves), tuple)
        self.assertEqual(len(moves), least_turns(first, second), (first, second))
        for move in moves:
            self.assertIs(type(move), tuple)
            self.assertIn(move, helpers.all_turns(len(first)))
        self.assertEqual(helpers.after_turns(first, moves), second)

    def test_all_pairs_of_rows_of_few_pieces(self):
        for n in range(4):
            for first in signed_rows(n):
                for second in signed_rows(n):
                    self.check(first, second)

    def test_all_rows_of_four_and_some_of_five_pieces(self):
        for n, step in ((4, 1), (5, 3)):
            for row in signed_rows(n)[::step]:
                self.check(row, FORTY[:n])

    def test_rows_without_a_minus(self):
        for n, step in ((4, 1), (5, 1), (6, 3), (7, 31)):
            for row in helpers.plain_rows(n)[::step]:
                self.check(row, FORTY[:n])
        for row in some_rows(12, 60, 9):
            self.check(row, FORTY[:12])

    def test_rows_up_to_twelve_pieces(self):
        for first, second in pairs_up_to(12):
            self.check(first, second)
        for first, second in zip(some_signed(12, 60, 7), some_signed(12, 60, 8)):
            self.check(first, second)

    def test_several_bad_parts(self):
        row = drawings.side_by_side(4)
        self.assertEqual(len(row), 11)
        self.check(row, FORTY[:11])
        self.check(row + (12,), FORTY[:12])
        self.check((-12,) + row, FORTY[:12])
        self.check((2, 4, 3, 5, 1, 6, 8, 10, 9, 11, 7, 12), FORTY[:12])
        self.check((2, 4, 6, 8, 7, 9, 5, 10, 3, 11, 1, 12), FORTY[:12])

    def test_no_turn(self):
        self.assertEqual(turn_script((), ()), ())
        self.assertEqual(turn_script((-2, 1), (-2, 1)), ())
        self.assertEqual(turn_script((1,), (-1,)), (("turn", 0, 0),))
        self.assertEqual(turn_script((1, -3, -2, 4), (1, 2, 3, 4)), (("turn", 1, 2),))

    def test_too_many_pieces(self):
        for n in (13, 14, 40):
            for first, second in ((FORTY[:n], FORTY[:n]), (FORTY[:n], NEGATIVE[:n]), (NEGATIVE[:n], FORTY[:n][::-1])):
                with self.assertRaises(OutOfRange):
                    turn_script(first, second)

    def test_bad_rows(self):
        helpers.check_refuses_signed(self, InvalidRow, turn_script)


if __name__ == "__main__":
    unittest.main()
