"""numbering.py: point 1.9."""

import unittest
from math import factorial

from tests import helpers
from turnedrows.errors import InvalidRow, OutOfRange
from turnedrows.numbering import row_at, row_number


class RowNumber(unittest.TestCase):
    def test_all_rows_of_few_pieces_in_order(self):
        for n in range(8):
            rows = sorted(helpers.plain_rows(n))
            for number in range(len(rows)):
                self.assertEqual(row_number(rows[number]), number)

    def test_the_first_and_the_last_row(self):
        for n in (0, 1, 2, 17, 40):
            row = tuple(range(1, n + 1))
            self.assertEqual(row_number(row), 0)
            self.assertEqual(row_number(row[::-1]), factorial(n) - 1)
        row = tuple(range(1, 41))
        self.assertEqual(row_number((2, 1) + row[2:]), factorial(39))
        self.assertEqual(row_number(row[:38] + (40, 39)), 1)

    def test_bad_rows(self):
        for bad in helpers.BAD_ROWS:
            with self.assertRaises(InvalidRow):
                row_number(bad)


class RowAt(unittest.TestCase):
    def test_all_rows_of_few_pieces_in_order(self):
        for n in range(8):
            rows = sorted(helpers.plain_rows(n))
            for number in range(len(rows)):
                self.assertEqual(row_at(n, number), rows[number])
                self.assertIs(type(row_at(n, number)), tuple)

    def test_the_first_and_the_last_number(self):
        for n in (0, 1, 2, 17, 40):
            row = tuple(range(1, n + 1))
            self.assertEqual(row_at(n, 0), row)
            self.assertEqual(row_at(n, factorial(n) - 1), row[::-1])

    def test_long_rows_come_back(self):
        for n in (8, 20, 33, 39, 40):
            for row in helpers.some_rows(n, 10):
                self.assertEqual(row_at(n, row_number(row)), row)
            for number in (1, factorial(n) // 3, factorial(n) // 2, factorial(n) - 2):
                self.assertEqual(row_number(row_at(n, number)), number)

    def test_no_row_has_the_number(self):
        for n in range(41):
            for number in (-1, -2, -helpers.HUGE, factorial(n), factorial(n) + 1, helpers.HUGE):
                with self.assertRaises(OutOfRange):
                    row_at(n, number)

    def test_other_numbers_of_pieces(self):
        for n in (-1, -2, -40, -helpers.HUGE, 41, 42, 100, helpers.HUGE):
            for number in (0, 1, -1, helpers.HUGE):
                with self.assertRaises(OutOfRange):
                    row_at(n, number)


if __name__ == "__main__":
    unittest.main()
