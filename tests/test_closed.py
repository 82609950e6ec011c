"""closed.py: point 2.7."""

import itertools
import unittest

from tests import helpers
from tests.helpers import FORTY, NEGATIVE, signed_rows, some_rows, some_signed
from turnedrows.closed import closed_turn_script, is_same_closed, least_closed_turns, opened
from turnedrows.errors import InvalidRow, OutOfRange


def readings(row):
    """All readings of a closed row, from each place and in both directions."""
    back = tuple([-x for x in reversed(row)])
    return [way[at:] + way[:at] for way in (row, back) for at in range(max(1, len(row)))]


def opened_by_words(row):
    """The reading that begins with the greatest piece, with the sign plus."""
    return [reading for reading in readings(row) if reading[:1] in ((), (len(row),))][0]


def search_closed(first):
    """From a closed row on, breadth first over the turns of all readings: the least number to each opened reading."""
    least = {opened_by_words(first): 0}
    queue = list(least)
    for row in queue:
        for reading in readings(row):
            for move in helpers.all_turns(len(row)):
                there = opened_by_words(helpers.after_turn(reading, move))
                if there not in least:
                    least[there] = least[row] + 1
                    queue.append(there)
    return least


def closed_rows(n):
    """The opened readings of all closed rows of n pieces."""
    return [row for row in signed_rows(n) if row[:1] in ((), (n,))]


class Opened(unittest.TestCase):
    def test_examples(self):
        self.assertEqual(opened(()), ())
        self.assertEqual(opened((1,)), (1,))
        self.assertEqual(opened((-1,)), (1,))
        self.assertEqual(opened((1, 2)), (2, 1))
        self.assertEqual(opened((-2, 1)), (2, -1))
        self.assertEqual(opened((1, -3, 2)), (3, -1, -2))
        self.assertEqual(opened((1, 3, 2)), (3, 2, 1))
        self.assertEqual(opened(FORTY), (40,) + FORTY[:39])
        self.assertEqual(opened(NEGATIVE), FORTY[::-1])

    def test_the_same_for_each_reading(self):
        rows = [row for n in range(5) for row in signed_rows(n)]
        for n in (7, 13, 39, 40, 40):
            rows.extend(some_signed(n, 3) + some_rows(n, 2))
        for row in rows:
            there = opened_by_words(row)
            for reading in readings(row):
                self.assertEqual(opened(reading), there)
                self.assertIs(type(opened(reading)), tuple)

    def test_bad_rows(self):
        for bad in helpers.BAD_SIGNED:
            with self.assertRaises(InvalidRow):
                opened(bad)


class IsSameClosed(unittest.TestCase):
    def test_all_pairs_of_rows_of_few_pieces(self):
        for n in range(4):
            for first in signed_rows(n):
                same = readings(first)
                for second in signed_rows(n):
                    self.assertIs(is_same_closed(first, second), second in same)

    def test_rows_without_pieces(self):
        self.assertIs(is_same_closed((), ()), True)

    def test_longer_rows(self):
        for row in some_signed(40, 3) + some_signed(9, 3):
            for reading in readings(row):
                self.assertIs(is_same_closed(row, reading), True)
                self.assertIs(is_same_closed(row, (-reading[0],) + reading[1:]), False)
                self.assertIs(is_same_closed(reading[::-1], row), False)

    def test_bad_rows(self):
        helpers.check_refuses_signed(self, InvalidRow, is_same_closed)


class LeastClosedTurns(unittest.TestCase):
    def test_all_closed_rows_of_few_pieces(self):
        for n in range(5):
            for first in closed_rows(n):
                found = search_closed(first)
                self.assertEqual(sorted(found), sorted(closed_rows(n)))
                for second in found:
                    self.assertEqual(least_closed_turns(first, second), found[second], (first, second))

    def test_five_pieces(self):
        for first in ((5, 1, 2, 3, 4), (5, -2, 4, 1, -3)):
            found = search_closed(first)
            for second in closed_rows(5):
                self.assertEqual(least_closed_turns(first, second), found[second], (first, second))
                self.assertEqual(least_closed_turns(second, first), found[second], (first, second))

    def test_each_reading(self):
        for n in range(1, 5):
            for first, second in zip(some_signed(n, 4, 1), some_signed(n, 4, 2)):
                least = search_closed(first)[opened_by_words(second)]
                for one, other in itertools.product(readings(first), readings(second)):
                    self.assertEqual(least_closed_turns(one, other), least)
        for first, second in zip(some_signed(40, 2, 1), some_signed(40, 2, 2)):
            least = least_closed_turns(first, second)
            for one, other in zip(readings(first), readings(second)[::-1]):
                self.assertEqual(least_closed_turns(one, other), least)

    def test_examples(self):
        self.assertEqual(least_closed_turns((), ()), 0)
        self.assertEqual(least_closed_turns((1,), (-1,)), 0)
        self.assertEqual(least_closed_turns((1, 2), (2, 1)), 0)
        self.assertEqual(least_closed_turns((1, 2), (1, -2)), 1)
        self.assertEqual(least_closed_turns((3, 2, 1), (1, 2, 3)), 3)
        self.assertEqual(least_closed_turns(FORTY, NEGATIVE[::-1]), 0)
        self.assertEqual(least_closed_turns(FORTY, FORTY[:20] + (-21,) + FORTY[21:]), 1)

    def test_bad_rows(self):
        helpers.check_refuses_signed(self, InvalidRow, least_closed_turns)


class ClosedTurnScript(unittest.TestCase):
    def check(self, first, second):
        moves = closed_turn_script(first, second)
        self.assertIs(type(moves), tuple)
        self.assertEqual(len(moves), least_closed_turns(first, second))
        for move in moves:
            self.assertIs(type(move), tuple)
            self.assertIn(move, helpers.all_turns(len(first)))
            self.assertGreater(move[1], 0)
        self.assertEqual(helpers.after_turns(opened_by_words(first), moves), opened_by_words(second))

    def test_rows_of_few_pieces(self):
        for n in range(4):
            for first in signed_rows(n):
                for second in signed_rows(n):
                    self.check(first, second)

    def test_rows_up_to_thirteen_pieces(self):
        for n in range(4, 14):
            for first, second in zip(some_signed(n, 8, 1), some_signed(n, 8, 2)):
                self.check(first, second)
                self.check(second, readings(first)[n + 1])
            for first, second in zip(some_rows(n, 4, 1), some_rows(n, 4, 2)):
                self.check(first, second)

    def test_no_turn(self):
        self.assertEqual(closed_turn_script((), ()), ())
        self.assertEqual(closed_turn_script((1,), (-1,)), ())
        self.assertEqual(closed_turn_script(FORTY[:13], NEGATIVE[:13][::-1]), ())
        self.assertEqual(closed_turn_script((1, 2), (2, -1)), (("turn", 1, 1),))

    def test_too_many_pieces(self):
        for n in (14, 15, 40):
            for first, second in ((FORTY[:n], FORTY[:n]), (FORTY[:n], NEGATIVE[:n]), (NEGATIVE[:n], FORTY[:n][::-1])):
                with self.assertRaises(OutOfRange):
                    closed_turn_script(first, second)

    def test_bad_rows(self):
        helpers.check_refuses_signed(self, InvalidRow, closed_turn_script)


if __name__ == "__main__":
    unittest.main()
