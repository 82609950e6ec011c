"""nexts.py: points 1.2, 1.5 and 1.6."""

import itertools
import unittest
from math import factorial

from tests import helpers
from turnedrows.errors import InvalidRow, OutOfRange
from turnedrows.nexts import least_nexts, next_script, next_ways


class LeastNexts(unittest.TestCase):
    def test_a_search_over_the_moves(self):
        helpers.check_least_of_few(self, "next", least_nexts)

    def test_long_rows(self):
        row = tuple(range(1, 41))
        self.assertEqual(least_nexts(row, row), 0)
        self.assertEqual(least_nexts(row, row[::-1]), 780)
        self.assertEqual(least_nexts(row, row[1:] + row[:1]), 39)
        self.assertEqual(least_nexts(row[::-1], (1,) + row[:0:-1]), 39)

    def test_bad_rows(self):
        helpers.check_refuses_rows(self, InvalidRow, least_nexts)


class NextScript(unittest.TestCase):
    def test_scripts(self):
        helpers.check_scripts(self, "next", next_script, least_nexts)

    def test_no_move(self):
        self.assertEqual(next_script((), ()), ())
        self.assertEqual(next_script((2, 1), (2, 1)), ())
        self.assertEqual(next_script((2, 1), (1, 2)), (("next", 0),))

    def test_bad_rows(self):
        helpers.check_refuses_rows(self, InvalidRow, next_script)


class NextWays(unittest.TestCase):
    def test_a_count_over_all_scripts(self):
        for n in range(5):
            moves = helpers.plain_moves("next", n)
            for first in helpers.plain_rows(n):
                for many in range(n * (n - 1) // 2 + 1):
                    counts = {}
                    for script in itertools.product(moves, repeat=many):
                        there = helpers.after_all(first, script)
                        counts[there] = counts.get(there, 0) + 1
                    for second in counts:
                        if least_nexts(first, second) == many:
                            self.assertEqual(next_ways(first, second), counts[second])

    def test_a_search_over_the_moves(self):
        for n in (5, 6):
            first = helpers.some_rows(n, 1)[0]
            ways = helpers.search(first, helpers.plain_moves("next", n))[1]
            for second in helpers.plain_rows(n):
                self.assertEqual(next_ways(first, second), ways[second])

    def test_seven_pieces(self):
        first = (1, 2, 3, 4, 5, 6, 7)
        ways = helpers.search(first, helpers.plain_moves("next", 7))[1]
        for second in helpers.some_rows(7, 20) + [first, first[::-1]]:
            self.assertEqual(next_ways(first, second), ways[second])
            self.assertEqual(next_ways(second, first), ways[second])
        # From the sorted row to the reversed one there are as many scripts as ways to fill the staircase 6, 5 .. 1.
        hooks = 1 ** 6 * 3 ** 5 * 5 ** 4 * 7 ** 3 * 9 ** 2 * 11
        self.assertEqual(next_ways(first, first[::-1]), factorial(21) // hooks)

    def test_some_numbers(self):
        self.assertEqual(next_ways((), ()), 1)
        self.assertEqual(next_ways((1,), (1,)), 1)
        self.assertEqual(next_ways((2, 1), (1, 2)), 1)
        self.assertEqual(next_ways((3, 2, 1), (1, 2, 3)), 2)
        self.assertEqual(next_ways((4, 3, 2, 1), (1, 2, 3, 4)), 16)
        self.assertIs(type(next_ways((2, 1), (1, 2))), int)

    def test_more_than_seven_pieces(self):
        for n in (8, 9, 20, 40):
            row = tuple(range(1, n + 1))
            for second in (row, row[::-1]):
                with self.assertRaises(OutOfRange):
                    next_ways(row, second)

    def test_bad_rows_come_ahead_of_too_many_pieces(self):
        helpers.check_refuses_rows(self, InvalidRow, next_ways)
        eight = tuple(range(1, 9))
        for bad in ((1,) * 8, tuple(range(8)), tuple(range(1, 42)), tuple(range(1, 10)), eight[:7], ()):
            with self.assertRaises(InvalidRow):
                next_ways(bad, eight)
            with self.assertRaises(InvalidRow):
                next_ways(eight, bad)


if __name__ == "__main__":
    unittest.main()
