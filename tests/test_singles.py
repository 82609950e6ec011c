"""singles.py: points 3.4, 3.5 and 3.7."""

import functools
import itertools
import math
import unittest
from fractions import Fraction

from tests import strands
from turnedrows.bodies import Body, body_of
from turnedrows.cuts import do_cuts
from turnedrows.errors import InvalidBody
from turnedrows.singles import least_singles, single_script, single_ways

ROW = tuple(range(1, 41))


def few_pairs():
    """For each body of few pieces: the number of pieces, its joints, and what a search from there finds."""
    for n in range(4):
        for joints in strands.all_joints(n):
            yield n, joints, strands.search_singles(n, joints)
    for joints in ((), ((1, 2), (3, 4)), ((1, 8), (2, 3), (4, 5), (6, 7)), ((1, 8), (2, 3), (4, 7))):
        yield 4, joints, strands.search_singles(4, joints)


@functools.lru_cache(maxsize=None)
def by_turns(m):
    """z(m) by the sum over the place of the greatest piece: what stands before it and behind it goes by turns, too."""
    if m < 2:
        return 1
    total = sum(math.comb(m - 1, k) * by_turns(k) * by_turns(m - 1 - k) for k in range(m))
    return total // 2


def factors(first, second):
    """The factors of point 3.7, from the parts of the web that a walk from each end finds."""
    left = set(range(1, 2 * first.n + 1))
    while left:
        part, queue, lines = set(), [min(left)], 0
        while queue:
            end = queue.pop()
            if end not in part:
                part.add(end)
                partners = [body.partner(end) for body in (first, second) if body.partner(end)]
                lines += len(partners)
                queue.extend(partners)
        left -= part
        lines //= 2
        if lines == len(part) - 1:
            yield Fraction(by_turns(lines), math.factorial(lines))
        elif len(part) == 2:
            yield Fraction(1)
        else:
            yield Fraction(len(part) // 2 * by_turns(len(part) - 1), math.factorial(len(part)))


def ways_by_words(first, second):
    number = Fraction(math.factorial(least_singles(first, second)))
    for factor in factors(first, second):
        number *= factor
    return number


class LeastSingles(unittest.TestCase):
    def test_a_search_over_cuts_and_joins(self):
        for n, joints, (found, _) in few_pairs():
            first = body_of(n, joints)
            self.assertEqual(len(found), len(strands.all_joints(n)))
            for there in found:
                second = body_of(n, there)
                self.assertEqual(least_singles(first, second), found[there], (joints, there))
                self.assertEqual(least_singles(second, first), found[there], (joints, there))

    def test_the_joints_that_just_one_has(self):
        for first, second in strands.long_pairs():
            one = [joint for joint in first.joints() if joint not in second.joints()]
            other = [joint for joint in second.joints() if joint not in first.joints()]
            self.assertEqual(least_singles(first, second), len(one) + len(other))
            self.assertEqual(least_singles(second, first), len(one) + len(other))
            self.assertEqual(least_singles(first, first), 0)

    def test_examples(self):
        linear, ring = Body(40, (("open", ROW),)), Body(40, (("closed", ROW),))
        self.assertEqual(least_singles(linear, ring), 1)
        self.assertEqual(least_singles(linear, body_of(40, ())), 39)
        self.assertEqual(least_singles(body_of(40, ()), ring), 40)
        self.assertEqual(least_singles(linear, Body(40, (("open", ROW[:10] + ROW[20:] + ROW[10:20]),))), 4)
        self.assertEqual(least_singles(ring, Body(40, (("closed", ROW[:10] + ROW[20:] + ROW[10:20]),))), 6)
        self.assertEqual(least_singles(ring, body_of(40, [(2 * x - 1, 2 * x) for x in ROW])), 80)
        self.assertEqual(least_singles(body_of(0, ()), body_of(0, ())), 0)

    def test_different_numbers_of_pieces(self):
        strands.check_refuses_pieces(self, InvalidBody, least_singles)


class SingleScript(unittest.TestCase):
    def check(self, first, second):
        before = first.joints(), second.joints()
        moves = single_script(first, second)
        self.assertIs(type(moves), tuple)
        self.assertEqual(len(moves), least_singles(first, second))
        here = first.joints()
        for move in moves:
            self.assertIs(type(move), tuple)
            here = strands.singles_by_words(first.n, here)[move]
        self.assertEqual(here, second.joints())
        self.assertEqual(do_cuts(first, moves), second)
        self.assertEqual((first.joints(), second.joints()), before)

    def test_all_pairs_of_bodies_of_few_pieces(self):
        for n in range(4):
            bodies = [body_of(n, joints) for joints in strands.all_joints(n)]
            for first in bodies:
                for second in bodies:
                    self.check(first, second)

    def test_bodies_up_to_forty_pieces(self):
        for first, second in strands.long_pairs():
            self.check(first, second)
            self.check(second, first)

    def test_equal_bodies(self):
        for body in strands.some_bodies(2):
            self.assertEqual(single_script(body, body), ())

    def test_different_numbers_of_pieces(self):
        strands.check_refuses_pieces(self, InvalidBody, single_script)


class SingleWays(unittest.TestCase):
    def test_a_count_over_all_least_scripts(self):
        for n, joints, (found, ways) in few_pairs():
            first = body_of(n, joints)
            for there in found:
                self.assertEqual(single_ways(first, body_of(n, there)), ways[there], (joints, there))

    def test_rows_by_turns(self):
        for m in range(9):
            rows = [
                row for row in itertools.permutations(range(m))
                if all((row[k] < row[k + 1]) == (k % 2 == 0) for k in range(m - 1))
            ]
            self.assertEqual(by_turns(m), len(rows))
        # A single way of m + 1 ends: its lines are cut and joined in an order that goes up and down by turns.
        for m in range(80):
            pairs = [(k, k + 1) for k in range(1, m + 1)]
            first, second = body_of(40, pairs[::2]), body_of(40, pairs[1::2])
            self.assertEqual(single_ways(first, second), by_turns(m))
            self.assertEqual(single_ways(second, first), by_turns(m))

    def test_a_single_ring(self):
        for k in range(1, 41):
            pairs = [(end, end % (2 * k) + 1) for end in range(1, 2 * k + 1)]
            first, second = body_of(40, pairs[::2]), body_of(40, pairs[1::2])
            self.assertEqual(single_ways(first, second), 1 if k == 1 else k * by_turns(2 * k - 1))

    def test_several_parts(self):
        # Two ways of three ends: 4! / (2! 2!) orders of their steps.
        first, second = body_of(3, ((1, 2), (4, 5))), body_of(3, ((2, 3), (5, 6)))
        self.assertEqual(single_ways(first, second), 6)
        # Two rings of four ends: in each of them two cuts in any order, then two joins in any order.
        first = body_of(4, ((1, 2), (3, 4), (5, 6), (7, 8)))
        second = body_of(4, ((1, 3), (2, 4), (5, 7), (6, 8)))
        self.assertEqual(single_ways(first, second), 70 * 4 * 4)

    def test_longer_bodies(self):
        for first, second in strands.long_pairs():
            self.assertEqual(single_ways(first, second), ways_by_words(first, second))
            self.assertEqual(single_ways(second, first), ways_by_words(first, second))

    def test_equal_bodies(self):
        for body in strands.some_bodies(2):
            self.assertEqual(single_ways(body, body), 1)

    def test_different_numbers_of_pieces(self):
        strands.check_refuses_pieces(self, InvalidBody, single_ways)


if __name__ == "__main__":
    unittest.main()
