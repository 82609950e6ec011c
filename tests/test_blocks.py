"""blocks.py: points 1.2, 1.4 and 1.5."""

import unittest

from tests import helpers
from turnedrows.blocks import block_script, least_blocks
from turnedrows.errors import InvalidRow


class LeastBlocks(unittest.TestCase):
    def test_a_search_over_the_moves(self):
        helpers.check_least_of_few(self, "blocks", least_blocks)

    def test_long_rows(self):
        row = tuple(range(1, 41))
        self.assertEqual(least_blocks(row, row), 0)
        self.assertEqual(least_blocks(row, row[1:] + row[:1]), 1)
        self.assertEqual(least_blocks(row[20:] + row[:20], row), 1)
        self.assertEqual(least_blocks(row[::-1], row), 20)
        # Two stretches of different lengths are exchanged around what is between them.
        self.assertEqual(least_blocks(row[:3] + row[20:35] + row[7:20] + row[3:7] + row[35:], row), 1)

    def test_bad_rows(self):
        helpers.check_refuses_rows(self, InvalidRow, least_blocks)


class BlockScript(unittest.TestCase):
    def test_scripts(self):
        helpers.check_scripts(self, "blocks", block_script, least_blocks)

    def test_all_rows_of_six_and_some_longer_ones(self):
        rows = helpers.plain_rows(6) + helpers.some_rows(8, 60) + helpers.some_rows(11, 60)
        for row in rows:
            helpers.check_script(self, "blocks", block_script, least_blocks, row, tuple(sorted(row)))

    def test_more_long_rows(self):
        for first, second in zip(helpers.some_rows(40, 60, 5), helpers.some_rows(40, 60, 6)):
            helpers.check_script(self, "blocks", block_script, least_blocks, first, second)

    def test_no_move(self):
        self.assertEqual(block_script((), ()), ())
        self.assertEqual(block_script((2, 1), (2, 1)), ())
        self.assertEqual(block_script((2, 1), (1, 2)), (("blocks", 0, 1, 1, 2),))
        self.assertEqual(block_script((1, 4, 3, 2, 5), (1, 2, 3, 4, 5)), (("blocks", 1, 2, 3, 4),))

    def test_bad_rows(self):
        helpers.check_refuses_rows(self, InvalidRow, block_script)


if __name__ == "__main__":
    unittest.main()
