"""together.py: common stretches, point 2.8."""

import unittest

from tests import helpers
from tests.helpers import FORTY, NEGATIVE, plain_rows, signed_rows, some_rows, some_signed
from turnedrows.errors import InvalidRow
from turnedrows.together import common_stretches


def stretches(row):
    """The sets of at least two pieces that stand side by side, without signs, with their first and last places."""
    n = len(row)
    return {frozenset(abs(x) for x in row[i:j + 1]): (i, j) for i in range(n) for j in range(i + 1, n)}


def by_words(first, second):
    """The first and last places in the first row of the sets that both rows have."""
    here, there = stretches(first), stretches(second)
    return tuple(sorted([here[pieces] for pieces in here if pieces in there]))


class CommonStretches(unittest.TestCase):
    def test_examples(self):
        self.assertEqual(common_stretches((), ()), ())
        self.assertEqual(common_stretches((1,), (1,)), ())
        self.assertEqual(common_stretches((1,), (-1,)), ())
        self.assertEqual(common_stretches((1, 2), (2, 1)), ((0, 1),))
        self.assertEqual(common_stretches((1, 2, 3), (1, 2, 3)), ((0, 1), (0, 2), (1, 2)))
        self.assertEqual(common_stretches((2, 4, 1, 3), (1, 2, 3, 4)), ((0, 3),))
        self.assertEqual(common_stretches((3, -1, 2, 4), (2, 1, -4, 3)), ((0, 3), (1, 2), (1, 3)))
        self.assertEqual(common_stretches((-4, 3, 1, -2), (1, 2, 3, 4)), ((0, 1), (0, 3), (1, 3), (2, 3)))

    def test_equal_rows_have_all_stretches(self):
        for row in (FORTY, NEGATIVE, some_rows(40, 1)[0], some_signed(7, 1)[0]):
            everything = tuple([(i, j) for i in range(len(row)) for j in range(i + 1, len(row))])
            self.assertEqual(common_stretches(row, row), everything)
            self.assertEqual(common_stretches(row, row[::-1]), everything)
            self.assertEqual(common_stretches(row, tuple([-x for x in row])), everything)

    def test_rows_of_few_pieces(self):
        for n in range(5):
            for first in plain_rows(n):
                for second in plain_rows(n):
                    self.assertEqual(common_stretches(first, second), by_words(first, second))
        for n in range(4):
            for first in signed_rows(n):
                for second in signed_rows(n):
                    self.assertEqual(common_stretches(first, second), by_words(first, second))
        for row in plain_rows(6):
            self.assertEqual(common_stretches(row, FORTY[:6]), by_words(row, FORTY[:6]))

    def test_longer_rows(self):
        for n in (8, 13, 24, 40):
            for first, second in zip(some_signed(n, 4, 1), some_signed(n, 4, 2)):
                found = common_stretches(first, second)
                self.assertIs(type(found), tuple)
                self.assertEqual(found, by_words(first, second))
                turned = helpers.after_turns(first, (("turn", 2, n - 3), ("turn", 1, n // 2), ("turn", n // 3, n - 1)))
                self.assertEqual(common_stretches(first, turned), by_words(first, turned))
                self.assertEqual(common_stretches(turned, first), by_words(turned, first))

    def test_bad_rows(self):
        helpers.check_refuses_signed(self, InvalidRow, common_stretches)
        for bad in helpers.BAD_ROWS:
            # Some rows that are not plain ones are signed ones.
            if bad not in ((-1,), (-1, 2), (1, -2)):
                for first, second in ((bad, FORTY[:len(bad)]), (FORTY[:len(bad)], bad), (bad, bad)):
                    with self.assertRaises(InvalidRow):
                        common_stretches(first, second)



if __name__ == "__main__":
    unittest.main()
