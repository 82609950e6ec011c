"""flips.py: points 1.2 and 1.7."""

import unittest

from tests import helpers
from tests.helpers import FORTY
from turnedrows.errors import InvalidRow, OutOfRange
from turnedrows.flips import flip_script, least_flips


class LeastFlips(unittest.TestCase):
    def test_a_search_over_the_moves(self):
        helpers.check_least_of_few(self, "flip", least_flips, 4)

    def test_five_and_seven_pieces(self):
        for n, step in ((5, 1), (7, 13)):
            ordered = FORTY[:n]
            found = helpers.search(ordered, helpers.plain_moves("flip", n))[0]
            for row in helpers.plain_rows(n)[::step]:
                self.assertEqual(least_flips(row, ordered), found[row], row)
                self.assertEqual(least_flips(ordered, row), found[row], row)

    def test_seven_pieces_at_most(self):
        first = (3, 1, 5, 2, 7, 4, 6)
        found = helpers.search(first, helpers.plain_moves("flip", 7))[0]
        self.assertEqual(max(found.values()), 6)
        for row in [row for row in found if found[row] == 6] + helpers.some_rows(7, 60):
            self.assertEqual(least_flips(first, row), found[row], row)

    def test_examples(self):
        self.assertEqual(least_flips((), ()), 0)
        self.assertEqual(least_flips((1,), (1,)), 0)
        self.assertEqual(least_flips((2, 1), (1, 2)), 1)
        self.assertEqual(least_flips((2, 3, 1), (1, 2, 3)), 2)
        self.assertEqual(least_flips((3, 1, 4, 2), (1, 2, 3, 4)), 3)
        self.assertEqual(least_flips((7, 6, 5, 4, 3, 2, 1), FORTY[:7]), 1)

    def test_bad_rows(self):
        helpers.check_refuses_rows(self, InvalidRow, least_flips)

    def test_too_many_pieces(self):
        for function in (least_flips, flip_script):
            for n in (8, 9, 40):
                for first, second in ((FORTY[:n], FORTY[:n]), (FORTY[:n], FORTY[:n][::-1])):
                    with self.assertRaises(OutOfRange):
                        function(first, second)


class FlipScript(unittest.TestCase):
    def check(self, first, second):
        helpers.check_script(self, "flip", flip_script, least_flips, first, second)

    def test_all_pairs_of_rows_of_few_pieces(self):
        for n in range(5):
            for first in helpers.plain_rows(n):
                for second in helpers.plain_rows(n):
                    self.check(first, second)

    def test_rows_up_to_seven_pieces(self):
        for n, step in ((5, 1), (6, 3), (7, 29)):
            for row in helpers.plain_rows(n)[::step]:
                self.check(row, FORTY[:n])
            for first, second in zip(helpers.some_rows(n, 40, 1), helpers.some_rows(n, 40, 2)):
                self.check(first, second)
                self.check(second, first)

    def test_no_flip(self):
        self.assertEqual(flip_script((), ()), ())
        self.assertEqual(flip_script((2, 1), (2, 1)), ())
        self.assertEqual(flip_script((1, 4, 3, 2, 5), (1, 2, 3, 4, 5)), (("flip", 1, 3),))

    def test_bad_rows(self):
        helpers.check_refuses_rows(self, InvalidRow, flip_script)


if __name__ == "__main__":
    unittest.main()
