"""parts.py: point 2.4."""

import itertools
import unittest

from tests import drawings, helpers
from turnedrows.errors import InvalidRow
from turnedrows.parts import bad_parts, crosses, is_oriented, parts


class IsOriented(unittest.TestCase):
    def test_all_pairs_of_spots(self):
        for p in range(82):
            for q in range(p + 1, 82):
                self.assertIs(is_oriented((p, q)), (p + q) in range(0, 200, 2))

    def test_examples(self):
        self.assertIs(is_oriented((0, 2)), True)
        self.assertIs(is_oriented((1, 3)), True)
        self.assertIs(is_oriented((0, 1)), False)
        self.assertIs(is_oriented((1, 2)), False)
        self.assertIs(is_oriented((2, 5)), False)


class Crosses(unittest.TestCase):
    def test_side_by_side_within_and_crossing(self):
        for a, b, c, d in itertools.combinations((0, 1, 2, 5, 6, 9, 40, 81), 4):
            for line, other, crossing in (
                ((a, b), (c, d), False), ((a, d), (b, c), False), ((a, c), (b, d), True),
            ):
                self.assertIs(crosses(line, other), crossing)
                self.assertIs(crosses(other, line), crossing)


class Parts(unittest.TestCase):
    def test_examples(self):
        self.assertEqual(parts(()), ((0,),))
        self.assertEqual(parts((1,)), ((0,), (1,)))
        self.assertEqual(parts((-1,)), ((0, 1),))
        self.assertEqual(parts((2, 1)), ((0, 1, 2),))
        self.assertEqual(parts((1, 3, 2)), ((0,), (1, 2, 3)))
        self.assertEqual(parts((2, 4, 3, 5, 1)), ((0, 1, 5), (2, 3, 4)))
        self.assertEqual(parts((-1, 2, -3)), ((0, 1), (2, 3)))
        self.assertEqual(parts(helpers.FORTY), tuple([(k,) for k in range(41)]))

    def test_all_rows_of_few_pieces(self):
        for n in range(6):
            for row in helpers.signed_rows(n):
                self.assertEqual(parts(row), drawings.parts_by_words(row), row)
        for n in (6, 7):
            for row in helpers.plain_rows(n)[::5]:
                self.assertEqual(parts(row), drawings.parts_by_words(row), row)

    def test_long_rows(self):
        for row in drawings.many_rows():
            found = parts(row)
            self.assertIs(type(found), tuple)
            self.assertEqual({type(part) for part in found}, {tuple})
            self.assertEqual(found, drawings.parts_by_words(row), row)
            self.assertEqual(sorted([k for part in found for k in part]), list(range(len(row) + 1)))

    def test_bad_rows(self):
        for bad in helpers.BAD_SIGNED:
            with self.assertRaises(InvalidRow):
                parts(bad)


class BadParts(unittest.TestCase):
    def test_examples(self):
        self.assertEqual(bad_parts((2, 1)), ((0, 1, 2),))
        self.assertEqual(bad_parts((3, 2, 1)), ((0, 1, 2, 3),))
        self.assertEqual(bad_parts((2, -1)), ())
        self.assertEqual(bad_parts((1, 3, 2)), ((1, 2, 3),))
        self.assertEqual(bad_parts((2, 4, 3, 5, 1)), ((0, 1, 5), (2, 3, 4)))
        self.assertEqual(bad_parts((2, 1, 3, -4, 5, 7, 6)), ((0, 1, 2), (5, 6, 7)))
        self.assertEqual(bad_parts((2, 1, 3, 5, 4)), ((0, 1, 2), (3, 4, 5)))

    def test_a_single_line_along_a_dark_one_is_not_bad(self):
        for n in (0, 1, 2, 24, 40):
            row = tuple(range(1, n + 1))
            self.assertEqual(len(parts(row)), n + 1)
            self.assertEqual(bad_parts(row), ())
        self.assertEqual(bad_parts((-1, 2, 3)), ())
        self.assertEqual(bad_parts((2, 1, 3, 4)), ((0, 1, 2),))

    def test_all_rows_of_few_pieces(self):
        for n in range(6):
            for row in helpers.signed_rows(n):
                self.assertEqual(bad_parts(row), drawings.bad_by_words(row), row)
        for n in (6, 7):
            for row in helpers.plain_rows(n)[::5]:
                self.assertEqual(bad_parts(row), drawings.bad_by_words(row), row)

    def test_long_rows(self):
        for row in drawings.many_rows():
            self.assertIs(type(bad_parts(row)), tuple)
            self.assertEqual(bad_parts(row), drawings.bad_by_words(row), row)
        self.assertEqual(len(bad_parts(drawings.side_by_side(13))), 13)
        self.assertEqual(len(bad_parts(drawings.with_nested(6))), 12)

    def test_bad_rows(self):
        for bad in helpers.BAD_SIGNED:
            with self.assertRaises(InvalidRow):
                bad_parts(bad)


if __name__ == "__main__":
    unittest.main()
