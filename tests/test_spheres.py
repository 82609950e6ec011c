"""spheres.py: point 1.8."""

import unittest
from math import factorial

from tests import helpers
from turnedrows.errors import OutOfRange
from turnedrows.spheres import how_many

KINDS = ("swap", "next", "take", "blocks")


def greatest(kind, n):
    """The greatest least number of a kind among the rows of n pieces."""
    if n == 0:
        return 0
    return {"swap": n - 1, "next": n * (n - 1) // 2, "take": n - 1, "blocks": n // 2}[kind]


class HowMany(unittest.TestCase):
    def test_a_count_over_all_rows(self):
        for n in range(7):
            for kind in KINDS:
                least = helpers.search(tuple(range(1, n + 1)), helpers.plain_moves(kind, n))[0]
                numbers = list(least.values())
                self.assertEqual(len(numbers), factorial(n))
                self.assertEqual(max(numbers), greatest(kind, n))
                for d in range(-3, n * n + 3):
                    self.assertEqual(how_many(kind, n, d), numbers.count(d), (kind, n, d))
                    self.assertIs(type(how_many(kind, n, d)), int)

    def test_all_rows_are_counted(self):
        for n in range(21):
            for kind in KINDS:
                total = sum([how_many(kind, n, d) for d in range(n * (n - 1) // 2 + 2)])
                self.assertEqual(total, factorial(n), (kind, n))

    def test_some_numbers(self):
        self.assertEqual(how_many("swap", 20, 19), factorial(19))
        self.assertEqual(how_many("swap", 20, 1), 190)
        self.assertEqual(how_many("next", 20, 1), 19)
        self.assertEqual(how_many("next", 20, 190), 1)
        self.assertEqual(how_many("next", 20, 187), how_many("next", 20, 3))
        self.assertEqual(how_many("take", 20, 19), 1)
        # All rows that come from the sorted one by a single take: 19 * 19 of them.
        self.assertEqual(how_many("take", 20, 1), 361)
        # As many rows without three ascending places as the tenth of the numbers 1, 2, 5, 14 .. of Catalan.
        self.assertEqual(how_many("take", 10, 8), 16796 - 1)
        # A single exchange of blocks is told by four cuts, or by three if nothing stands between the blocks.
        self.assertEqual(how_many("blocks", 20, 1), 5985 + 1330)
        for kind in KINDS:
            self.assertEqual(how_many(kind, 0, 0), 1)
            self.assertEqual(how_many(kind, 1, 0), 1)
            self.assertEqual(how_many(kind, 20, 0), 1)

    def test_no_row_has_the_number(self):
        for kind in KINDS:
            for n in range(21):
                most = greatest(kind, n)
                self.assertGreater(how_many(kind, n, most), 0)
                for d in (-1, -2, -n - 1, -n - 2, -helpers.HUGE, most + 1, most + 2, most + 20, n + 211, helpers.HUGE):
                    self.assertEqual(how_many(kind, n, d), 0, (kind, n))

    def test_other_kinds(self):
        for kind in ("", "flip", "turn", "closed", "recut", "single", "swaps", "Swap", "block", "rings", "cut", "d"):
            for n, d in ((3, 1), (0, 0), (20, 5), (-1, 0), (21, 0), (helpers.HUGE, -helpers.HUGE)):
                with self.assertRaises(OutOfRange):
                    how_many(kind, n, d)

    def test_other_numbers_of_pieces(self):
        for kind in KINDS:
            for n in (-1, -2, -20, -helpers.HUGE, 21, 22, 40, helpers.HUGE):
                for d in (0, 1, -1, 300, helpers.HUGE):
                    with self.assertRaises(OutOfRange):
                        how_many(kind, n, d)


if __name__ == "__main__":
    unittest.main()
