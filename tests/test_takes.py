"""takes.py: points 1.2 and 1.5, rising and falls."""

import itertools
import unittest

from tests import helpers
from turnedrows.errors import InvalidRow
from turnedrows.takes import falls, least_takes, rising, take_script


def greatest_rise(row):
    """The greatest number of places at which the numbers ascend, by looking at every choice of places."""
    for many in range(len(row), 0, -1):
        for numbers in itertools.combinations(row, many):
            if list(numbers) == sorted(numbers):
                return many
    return 0


class Rising(unittest.TestCase):
    def check(self, row, many):
        places = rising(row)
        self.assertIs(type(places), tuple)
        self.assertEqual(len(places), many, row)
        self.assertEqual(list(places), sorted(set(places)))
        self.assertTrue(all(place in range(len(row)) for place in places))
        numbers = [row[place] for place in places]
        self.assertEqual(numbers, sorted(numbers))

    def test_all_rows_of_few_pieces(self):
        for n in range(7):
            for row in helpers.plain_rows(n):
                self.check(row, greatest_rise(row))

    def test_some_rows(self):
        self.check((), 0)
        self.check((1,), 1)
        self.check((3, 1, 2), 2)
        self.check((2, 5, 3, 1, 4), 3)
        for n in (2, 13, 40):
            ordered = tuple(range(1, n + 1))
            self.assertEqual(rising(ordered), tuple(range(n)))
            self.check(ordered[::-1], 1)
            self.check(ordered[1:] + ordered[:1], n - 1)
        self.check(tuple(range(21, 41)) + tuple(range(1, 21)), 20)

    def test_long_rows_rise_as_often_as_they_have_falls(self):
        for row, _ in helpers.long_pairs():
            self.check(row, len(falls(row)))

    def test_bad_rows(self):
        for bad in helpers.BAD_ROWS:
            with self.assertRaises(InvalidRow):
                rising(bad)


class Falls(unittest.TestCase):
    def check(self, row):
        found = falls(row)
        self.assertIs(type(found), tuple)
        self.assertEqual(len(found), len(rising(row)))
        self.assertEqual(sorted([place for fall in found for place in fall]), list(range(len(row))))
        for fall in found:
            self.assertIs(type(fall), tuple)
            self.assertGreater(len(fall), 0)
            self.assertEqual(list(fall), sorted(fall))
            numbers = [row[place] for place in fall]
            self.assertEqual(numbers, sorted(numbers, reverse=True))

    def test_all_rows_of_few_pieces(self):
        for n in range(7):
            for row in helpers.plain_rows(n):
                self.check(row)

    def test_long_rows(self):
        for first, second in helpers.long_pairs():
            self.check(first)
            self.check(second)

    def test_sorted_and_reversed_rows(self):
        self.assertEqual(falls(()), ())
        self.assertEqual(falls((1,)), ((0,),))
        for n in (2, 13, 40):
            ordered = tuple(range(1, n + 1))
            self.assertEqual(sorted(falls(ordered)), [(place,) for place in range(n)])
            self.assertEqual(falls(ordered[::-1]), (tuple(range(n)),))

    def test_bad_rows(self):
        for bad in helpers.BAD_ROWS:
            with self.assertRaises(InvalidRow):
                falls(bad)


class LeastTakes(unittest.TestCase):
    def test_a_search_over_the_moves(self):
        helpers.check_least_of_few(self, "take", least_takes)

    def test_long_rows(self):
        row = tuple(range(1, 41))
        self.assertEqual(least_takes(row, row), 0)
        self.assertEqual(least_takes(row, row[::-1]), 39)
        self.assertEqual(least_takes(row, row[1:] + row[:1]), 1)
        self.assertEqual(least_takes(row[20:] + row[:20], row), 20)

    def test_bad_rows(self):
        helpers.check_refuses_rows(self, InvalidRow, least_takes)


class TakeScript(unittest.TestCase):
    def test_scripts(self):
        helpers.check_scripts(self, "take", take_script, least_takes)

    def test_more_long_rows(self):
        for first, second in zip(helpers.some_rows(40, 60, 5), helpers.some_rows(40, 60, 6)):
            helpers.check_script(self, "take", take_script, least_takes, first, second)

    def test_no_move(self):
        self.assertEqual(take_script((), ()), ())
        self.assertEqual(take_script((2, 1), (2, 1)), ())
        self.assertEqual(take_script((1, 3, 4, 2), (1, 2, 3, 4)), (("take", 3, 1),))

    def test_bad_rows(self):
        helpers.check_refuses_rows(self, InvalidRow, take_script)


if __name__ == "__main__":
    unittest.main()
