"""drawing.py: point 2.3."""

import unittest

from tests import drawings, helpers
from turnedrows.drawing import drawing_rings, light_lines, marks
from turnedrows.errors import InvalidRow


def all_rows():
    """All signed rows of few pieces, and longer ones."""
    return [row for n in range(5) for row in helpers.signed_rows(n)] + drawings.many_rows()


class Marks(unittest.TestCase):
    def test_examples(self):
        self.assertEqual(marks(()), (0, 1))
        self.assertEqual(marks((1,)), (0, 1, 2, 3))
        self.assertEqual(marks((-1,)), (0, 2, 1, 3))
        self.assertEqual(marks((2, -3, 1)), (0, 3, 4, 6, 5, 1, 2, 7))
        self.assertEqual(marks((-2, -1)), (0, 4, 3, 2, 1, 5))
        self.assertEqual(marks(helpers.FORTY), tuple(range(82)))
        self.assertEqual(marks(helpers.NEGATIVE[::-1]), (0, *range(80, 0, -1), 81))

    def test_its_words(self):
        for row in all_rows():
            self.assertEqual(marks(row), tuple(drawings.marks_by_words(row)))
            self.assertEqual(sorted(marks(row)), list(range(2 * len(row) + 2)))

    def test_bad_rows(self):
        for bad in helpers.BAD_SIGNED:
            with self.assertRaises(InvalidRow):
                marks(bad)


class LightLines(unittest.TestCase):
    def test_examples(self):
        self.assertEqual(light_lines(()), ((0, 1),))
        self.assertEqual(light_lines((1,)), ((0, 1), (2, 3)))
        self.assertEqual(light_lines((-1,)), ((0, 2), (1, 3)))
        self.assertEqual(light_lines((2, 1)), ((0, 3), (1, 4), (2, 5)))
        self.assertEqual(light_lines((2, -3, 1)), ((0, 5), (1, 6), (2, 4), (3, 7)))
        self.assertEqual(light_lines(helpers.FORTY), tuple([(2 * k, 2 * k + 1) for k in range(41)]))

    def test_its_words(self):
        for row in all_rows():
            lines = light_lines(row)
            self.assertEqual(lines, tuple(drawings.lines_by_words(row)))
            # Each spot is on one light line.
            self.assertEqual(sorted([spot for line in lines for spot in line]), list(range(2 * len(row) + 2)))
            for k, (p, q) in enumerate(lines):
                self.assertLess(p, q)
                self.assertEqual({marks(row)[p], marks(row)[q]}, {2 * k, 2 * k + 1})

    def test_bad_rows(self):
        for bad in helpers.BAD_SIGNED:
            with self.assertRaises(InvalidRow):
                light_lines(bad)


class DrawingRings(unittest.TestCase):
    def test_examples(self):
        self.assertEqual(drawing_rings(()), ((0, 1),))
        self.assertEqual(drawing_rings((1,)), ((0, 1), (2, 3)))
        self.assertEqual(drawing_rings((-1,)), ((0, 1, 3, 2),))
        self.assertEqual(drawing_rings((2, 1)), ((0, 1, 4, 5, 2, 3),))
        self.assertEqual(drawing_rings((1, -2)), ((0, 1), (2, 3, 5, 4)))
        self.assertEqual(drawing_rings((3, 2, 1)), ((0, 1, 4, 5), (2, 3, 6, 7)))
        self.assertEqual(drawing_rings((2, -3, 1)), ((0, 1, 6, 7, 3, 2, 4, 5),))
        self.assertEqual(drawing_rings(helpers.FORTY), tuple([(2 * i, 2 * i + 1) for i in range(41)]))

    def test_its_words(self):
        for row in all_rows():
            rings = drawing_rings(row)
            lines = drawings.lines_by_words(row)
            # Each spot stands once.
            self.assertEqual(sorted([spot for ring in rings for spot in ring]), list(range(2 * len(row) + 2)))
            self.assertEqual([ring[0] for ring in rings], sorted([min(ring) for ring in rings]))
            for ring in rings:
                self.assertEqual(len(ring) % 2, 0)
                for at in range(len(ring)):
                    p, q = sorted((ring[at - 1], ring[at]))
                    if at % 2 == 1:
                        self.assertTrue(p % 2 == 0 and q == p + 1, ring)
                    else:
                        self.assertIn((p, q), lines)

    def test_as_many_as_the_lines_make(self):
        for row in drawings.many_rows():
            self.assertEqual(sorted([set(ring) for ring in drawing_rings(row)], key=min),
                             sorted(drawings.rings_by_words(row), key=min))

    def test_bad_rows(self):
        for bad in helpers.BAD_SIGNED:
            with self.assertRaises(InvalidRow):
                drawing_rings(bad)


if __name__ == "__main__":
    unittest.main()
