"""swaps.py: points 1.2, 1.5 and 1.6."""

import itertools
import unittest
from fractions import Fraction
from math import factorial

from tests import helpers
from turnedrows.errors import InvalidRow
from turnedrows.swaps import least_swaps, swap_script, swap_ways


def by_product(lengths):
    """The number of least scripts of swaps, by the product of point 1.6, for rings of these lengths."""
    ways = Fraction(factorial(sum(lengths) - len(lengths)))
    for k in lengths:
        if k > 1:
            ways *= Fraction(k ** (k - 2), factorial(k - 1))
    return ways


def row_of_rings(lengths):
    """A row that has rings of these lengths, one after the other."""
    row = []
    for k in lengths:
        start = len(row)
        row.extend([start + (at + 1) % k + 1 for at in range(k)])
    return tuple(row)


class LeastSwaps(unittest.TestCase):
    def test_a_search_over_the_moves(self):
        helpers.check_least_of_few(self, "swap", least_swaps)

    def test_long_rows(self):
        row = tuple(range(1, 41))
        self.assertEqual(least_swaps(row, row), 0)
        self.assertEqual(least_swaps(row, row[::-1]), 20)
        self.assertEqual(least_swaps(row, row[1:] + row[:1]), 39)
        self.assertEqual(least_swaps(row_of_rings((7, 1, 2, 30)), row), 36)

    def test_bad_rows(self):
        helpers.check_refuses_rows(self, InvalidRow, least_swaps)


class SwapScript(unittest.TestCase):
    def test_scripts(self):
        helpers.check_scripts(self, "swap", swap_script, least_swaps)

    def test_no_move(self):
        self.assertEqual(swap_script((), ()), ())
        self.assertEqual(swap_script((2, 1), (2, 1)), ())
        self.assertEqual(swap_script((2, 1), (1, 2)), (("swap", 0, 1),))

    def test_bad_rows(self):
        helpers.check_refuses_rows(self, InvalidRow, swap_script)


class SwapWays(unittest.TestCase):
    def test_a_count_over_all_scripts(self):
        for n in range(5):
            moves = helpers.plain_moves("swap", n)
            for first in helpers.plain_rows(n)[::3]:
                for many in range(n):
                    counts = {}
                    for script in itertools.product(moves, repeat=many):
                        there = helpers.after_all(first, script)
                        counts[there] = counts.get(there, 0) + 1
                    for second in counts:
                        if least_swaps(first, second) == many:
                            self.assertEqual(swap_ways(first, second), counts[second])

    def test_a_search_over_the_moves(self):
        for n in range(7):
            first = helpers.some_rows(n, 1)[0]
            ways = helpers.search(first, helpers.plain_moves("swap", n))[1]
            for second in helpers.plain_rows(n):
                self.assertEqual(swap_ways(first, second), ways[second])

    def test_long_rows_by_the_product(self):
        for lengths in (
            (), (1,), (2,), (3,), (40,), (1,) * 40, (2,) * 20, (39, 1), (20, 20), (3, 5, 7, 11, 13), (1, 2, 3, 4, 30),
            (4,) * 10, (8, 8, 8, 8, 8), (12, 1, 12, 1), (10, 9, 8, 7, 6),
        ):
            ways = by_product(lengths)
            row = row_of_rings(lengths)
            self.assertEqual(ways.denominator, 1)
            self.assertEqual(swap_ways(row, tuple(range(1, len(row) + 1))), ways.numerator)
            self.assertEqual(swap_ways(tuple(range(1, len(row) + 1)), row), ways.numerator)
            self.assertIs(type(swap_ways(row, row)), int)

    def test_some_numbers(self):
        self.assertEqual(swap_ways((), ()), 1)
        self.assertEqual(swap_ways((1,), (1,)), 1)
        self.assertEqual(swap_ways((2, 1), (1, 2)), 1)
        self.assertEqual(swap_ways((2, 3, 1), (1, 2, 3)), 3)
        self.assertEqual(swap_ways((2, 3, 4, 1), (1, 2, 3, 4)), 16)
        self.assertEqual(swap_ways((2, 1, 4, 3), (1, 2, 3, 4)), 2)
        self.assertEqual(swap_ways(row_of_rings((40,)), tuple(range(1, 41))), 40 ** 38)

    def test_bad_rows(self):
        helpers.check_refuses_rows(self, InvalidRow, swap_ways)


if __name__ == "__main__":
    unittest.main()
