"""hurdles.py: point 2.5."""

import unittest

from tests import drawings, helpers
from turnedrows.errors import InvalidRow
from turnedrows.hurdles import great_hurdles, hurdles, is_fortress

NESTED = (2, 4, 3, 5, 1)


class Hurdles(unittest.TestCase):
    def check(self, row, all_hurdles, great):
        self.assertEqual(hurdles(row), all_hurdles)
        self.assertEqual(great_hurdles(row), great)
        self.assertIs(is_fortress(row), len(all_hurdles) % 2 == 1 and great == all_hurdles)

    def check_words(self, row):
        self.assertEqual(hurdles(row), drawings.hurdles_by_words(row), row)
        self.assertEqual(great_hurdles(row), drawings.great_by_words(row), row)
        self.assertIs(is_fortress(row), drawings.fortress_by_words(row), row)

    def test_no_bad_part(self):
        for row in ((), (1,), (-1,), (2, -1), (-2, -1), helpers.FORTY, helpers.NEGATIVE, helpers.NEGATIVE[::-1]):
            self.check(row, (), ())
            self.assertIs(is_fortress(row), False)

    def test_one_bad_part(self):
        self.check((2, 1), ((0, 1, 2),), ())
        self.check((3, 2, 1), ((0, 1, 2, 3),), ())
        self.check((1, 3, 2, 4), ((1, 2, 3),), ())
        self.check((2, 1, 3, -4), ((0, 1, 2),), ())
        self.check((2, 3, 1), ((0, 1, 3),), ())
        self.assertIs(is_fortress((2, 1)), False)

    def test_bad_parts_side_by_side(self):
        for many in range(2, 14):
            row = drawings.side_by_side(many)
            self.check(row, tuple([(3 * k, 3 * k + 1, 3 * k + 2) for k in range(many)]), ())
            self.assertIs(is_fortress(row), False)

    def test_one_within_the_other(self):
        # The outer part stands side by side, too: the last spot is the neighbor of the first one.
        self.check(NESTED, ((0, 1, 5), (2, 3, 4)), ())

    def test_great_hurdles(self):
        inner, last = (2, 3, 4), (6, 7, 8)
        self.check(NESTED + (6, 8, 7), (inner, last), (inner, last))
        self.check(NESTED + (6, 8, 7, 9, 11, 10), (inner, last, (9, 10, 11)), (inner,))
        self.check(drawings.with_nested(2), (inner, (8, 9, 10)), (inner, (8, 9, 10)))
        for many in range(3, 7):
            found = tuple([(6 * k + 2, 6 * k + 3, 6 * k + 4) for k in range(many)])
            self.check(drawings.with_nested(many), found, found)

    def test_fortress(self):
        self.assertEqual(len(drawings.FORTRESS), 17)
        for many in range(1, 7):
            self.assertIs(is_fortress(drawings.with_nested(many)), many in (3, 5))
        # One hurdle more that is not great, behind a fortress: their number is even. Then two more: it is odd.
        self.assertIs(is_fortress(drawings.FORTRESS + (18, 20, 19)), False)
        self.assertIs(is_fortress(drawings.FORTRESS + (18, 20, 19, 21, 23, 22)), False)
        self.assertIs(is_fortress(drawings.FORTRESS + (18, -19)), True)

    def test_the_words(self):
        kinds = set()
        for row in drawings.many_rows():
            self.check_words(row)
            kinds.add((len(hurdles(row)) % 2, len(great_hurdles(row)) > 0, is_fortress(row)))
        self.assertEqual(len(kinds), 5)

    def test_the_words_for_all_rows_of_few_pieces(self):
        for n in range(5):
            for row in helpers.signed_rows(n):
                self.check_words(row)
        for n in (5, 6, 7):
            for row in helpers.plain_rows(n)[::3]:
                self.check_words(row)

    def test_stretches_that_have_changed_places(self):
        # In each stretch of rows without a minus others have changed places, too.
        rows = (NESTED, (2, 1), (3, 2, 1), (1,), (4, 6, 5, 7, 3, 2, 1))
        for one in rows:
            for two in rows:
                for three in rows:
                    row = one
                    for more in (two, three, NESTED):
                        row = row + (len(row) + 1,) + tuple([len(row) + 1 + x for x in more])
                    self.check_words(row)

    def test_kinds_of_values(self):
        for row in drawings.SPECIAL:
            for found in (hurdles(row), great_hurdles(row)):
                self.assertIs(type(found), tuple)
                self.assertTrue(all(type(part) is tuple for part in found))
            self.assertIs(type(is_fortress(row)), bool)

    def test_bad_rows(self):
        for bad in helpers.BAD_SIGNED:
            for function in (hurdles, great_hurdles, is_fortress):
                with self.assertRaises(InvalidRow):
                    function(bad)


if __name__ == "__main__":
    unittest.main()
