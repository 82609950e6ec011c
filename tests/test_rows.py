"""rows.py: points 1.1, 1.3 and 1.4."""

import itertools
import unittest

from tests import helpers
from turnedrows.errors import InvalidRow
from turnedrows.rows import block_rings, check_row, relative_row, rings, sorted_row


class CheckRow(unittest.TestCase):
    def test_rows_are_returned(self):
        for n in (0, 1, 2, 3, 17, 39, 40):
            for row in helpers.some_rows(n, 5):
                self.assertIs(check_row(row), row)

    def test_all_tuples_of_few_numbers(self):
        for n in range(4):
            for row in itertools.product(range(-2, n + 2), repeat=n):
                if sorted(row) == list(range(1, n + 1)):
                    self.assertEqual(check_row(row), row)
                else:
                    with self.assertRaises(InvalidRow):
                        check_row(row)

    def test_bad_rows_are_refused(self):
        for bad in helpers.BAD_ROWS:
            for function in (check_row, rings, block_rings):
                with self.assertRaises(InvalidRow):
                    function(bad)

    def test_signed_rows_are_no_plain_rows(self):
        for bad in ((-1,), (1, -2), (-2, -1), tuple(range(-1, -41, -1))):
            with self.assertRaises(InvalidRow):
                check_row(bad)

    def test_forty_pieces_are_the_most(self):
        row = tuple(range(1, 41))
        self.assertEqual(check_row(row), row)
        with self.assertRaises(InvalidRow):
            check_row(row + (41,))


class SortedRow(unittest.TestCase):
    def test_sorted_rows(self):
        self.assertEqual(sorted_row(0), ())
        self.assertEqual(sorted_row(1), (1,))
        self.assertEqual(sorted_row(4), (1, 2, 3, 4))
        for n in range(41):
            self.assertEqual(sorted_row(n), tuple(sorted(helpers.some_rows(n, 1)[0])))


class RelativeRow(unittest.TestCase):
    def test_an_example(self):
        self.assertEqual(relative_row((3, 1, 2), (1, 2, 3)), (3, 1, 2))
        self.assertEqual(relative_row((3, 1, 2), (2, 3, 1)), (2, 3, 1))
        self.assertEqual(relative_row((1, 2, 3), (3, 1, 2)), (2, 3, 1))

    def check_words(self, first, second):
        row = relative_row(first, second)
        self.assertIs(type(row), tuple)
        self.assertEqual(len(row), len(first))
        for p in range(len(first)):
            self.assertEqual(second[row[p] - 1], first[p])

    def test_its_words_for_many_pairs(self):
        for n in range(5):
            for first in helpers.plain_rows(n):
                for second in helpers.plain_rows(n):
                    self.check_words(first, second)
        for first, second in helpers.long_pairs():
            self.check_words(first, second)

    def test_sorted_exactly_if_equal(self):
        for first in helpers.plain_rows(4):
            for second in helpers.plain_rows(4):
                self.assertEqual(relative_row(first, second) == sorted_row(4), first == second)

    def test_the_same_moves_lead_it_to_the_sorted_row(self):
        for first, second in zip(helpers.some_rows(4, 6, 3), helpers.some_rows(4, 6, 4)):
            relative = relative_row(first, second)
            for kind in ("swap", "next", "take", "flip", "blocks"):
                for move in helpers.plain_moves(kind, 4):
                    leads = helpers.after(first, move) == second
                    self.assertEqual(helpers.after(relative, move) == (1, 2, 3, 4), leads)

    def test_bad_rows_and_different_lengths(self):
        helpers.check_refuses_rows(self, InvalidRow, relative_row)


class Rings(unittest.TestCase):
    def test_examples(self):
        self.assertEqual(rings(()), ())
        self.assertEqual(rings((1,)), ((0,),))
        self.assertEqual(rings((1, 2)), ((0,), (1,)))
        self.assertEqual(rings((2, 1)), ((0, 1),))
        self.assertEqual(rings((2, 3, 1)), ((0, 1, 2),))
        self.assertEqual(rings((3, 1, 2)), ((0, 2, 1),))
        self.assertEqual(rings((4, 2, 1, 3, 6, 5)), ((0, 3, 2), (1,), (4, 5)))

    def check_words(self, row):
        found = rings(row)
        self.assertIs(type(found), tuple)
        self.assertEqual(sorted([p for ring in found for p in ring]), list(range(len(row))))
        self.assertEqual([ring[0] for ring in found], sorted([min(ring) for ring in found]))
        for ring in found:
            self.assertIs(type(ring), tuple)
            for at in range(len(ring)):
                self.assertEqual(row[ring[at]] - 1, ring[(at + 1) % len(ring)])

    def test_their_words(self):
        for n in range(7):
            for row in helpers.plain_rows(n):
                self.check_words(row)
        for first, second in helpers.long_pairs():
            self.check_words(first)
            self.check_words(second)

    def test_forty_pieces(self):
        self.assertEqual(rings(sorted_row(40)), tuple([(p,) for p in range(40)]))
        self.assertEqual(rings(sorted_row(40)[1:] + (1,)), (tuple(range(40)),))
        self.assertEqual(rings(sorted_row(40)[::-1]), tuple([(p, 39 - p) for p in range(20)]))


class BlockRings(unittest.TestCase):
    def test_examples(self):
        self.assertEqual(block_rings(()), ((1,),))
        self.assertEqual(block_rings((1,)), ((1,), (2,)))
        self.assertEqual(block_rings((1, 2)), ((1,), (2,), (3,)))
        self.assertEqual(block_rings((2, 1)), ((1, 2, 3),))
        # Extended: 0 3 1 2 4, so 1 leads to 2, 2 to 4, 3 to 3 and 4 to 1.
        self.assertEqual(block_rings((3, 1, 2)), ((1, 2, 4), (3,)))
        # Extended: 0 2 3 1 4, so 1 leads to 3, 2 to 2, 3 to 4 and 4 to 1.
        self.assertEqual(block_rings((2, 3, 1)), ((1, 3, 4), (2,)))

    def check_words(self, row):
        n = len(row)
        found = block_rings(row)
        self.assertIs(type(found), tuple)
        self.assertEqual(sorted([i for ring in found for i in ring]), list(range(1, n + 2)))
        self.assertEqual([ring[0] for ring in found], sorted([min(ring) for ring in found]))
        extended = [0, *row, n + 1]
        for ring in found:
            self.assertIs(type(ring), tuple)
            for at in range(len(ring)):
                here, there = ring[at], ring[(at + 1) % len(ring)]
                self.assertEqual(extended[there], extended[here - 1] + 1)

    def test_their_words(self):
        for n in range(7):
            for row in helpers.plain_rows(n):
                self.check_words(row)
        for first, second in helpers.long_pairs():
            self.check_words(first)
            self.check_words(second)

    def test_sorted_rows_have_the_most(self):
        for n in range(41):
            self.assertEqual(block_rings(sorted_row(n)), tuple([(i,) for i in range(1, n + 2)]))


if __name__ == "__main__":
    unittest.main()
