"""recuts.py: points 3.5 and 3.6, and what point 5.1 says of a web."""

import unittest

from tests import strands
from turnedrows.bodies import Body, body_of
from turnedrows.cuts import do_cuts
from turnedrows.errors import InvalidBody, OutOfRange
from turnedrows.recuts import least_recuts, recut_script, recut_ways, web


def few_pairs():
    """For each body of few pieces: the number of pieces, its joints, and what a search from there finds."""
    for n in range(4):
        for joints in strands.all_joints(n):
            yield n, joints, strands.search_recuts(n, joints)
    for joints in ((), ((1, 2), (3, 4)), ((1, 8), (2, 3), (4, 5), (6, 7)), ((1, 8), (2, 3), (4, 7))):
        yield 4, joints, strands.search_recuts(4, joints)


class Web(unittest.TestCase):
    def check(self, first, second):
        """The web has the form and the order that the document tells."""
        found = web(first, second)
        self.assertIs(type(found), tuple)
        rings, ways = found
        self.assertEqual({type(part) for part in (rings, ways, *rings, *ways)}, {tuple})
        # Each end once.
        self.assertEqual(sorted([end for part in rings + ways for end in part]), list(range(1, 2 * first.n + 1)))
        for ring in rings:
            self.assertEqual(len(ring) % 2, 0)
            self.assertGreater(len(ring), 0)
            self.assertEqual(ring[0], min(ring))
            for at in range(0, len(ring), 2):
                self.assertEqual(first.partner(ring[at]), ring[at + 1])
                self.assertEqual(second.partner(ring[at - 1]), ring[at])
        for way in ways:
            self.assertLessEqual(way[0], way[-1])
            # Neighbors are joined by the two bodies by turns, beginning with either.
            self.assertTrue(any(
                all(by_turns[k % 2].partner(way[k]) == way[k + 1] for k in range(len(way) - 1))
                for by_turns in ((first, second), (second, first))
            ))
            # The ends outside have no other joint.
            for outside, beside in ((way[0], way[1:2]), (way[-1], way[-2:-1])):
                partners = [body.partner(outside) for body in (first, second) if body.partner(outside) != 0]
                self.assertEqual(partners, list(beside))
        self.assertEqual([ring[0] for ring in rings], sorted([ring[0] for ring in rings]))
        self.assertEqual([way[0] for way in ways], sorted([way[0] for way in ways]))

    def test_examples(self):
        self.assertEqual(web(body_of(0, ()), body_of(0, ())), ((), ()))
        self.assertEqual(web(body_of(1, ()), body_of(1, ())), ((), ((1,), (2,))))
        self.assertEqual(web(body_of(1, ((1, 2),)), body_of(1, ())), ((), ((1, 2),)))
        self.assertEqual(web(body_of(1, ()), body_of(1, ((1, 2),))), ((), ((1, 2),)))
        self.assertEqual(web(body_of(1, ((1, 2),)), body_of(1, ((1, 2),))), (((1, 2),), ()))
        first = Body(3, (("open", (1, 2, 3)),))
        self.assertEqual(web(first, Body(3, (("closed", (1, 3, 2)),))), ((), ((1, 4, 5, 2, 3, 6),)))
        self.assertEqual(web(first, Body(3, (("open", (1, 3, 2)),))), ((), ((1,), (4, 5, 2, 3, 6))))
        self.assertEqual(web(first, Body(3, (("open", (1, -2, 3)),))), (((2, 3, 5, 4),), ((1,), (6,))))
        self.assertEqual(web(first, Body(3, (("open", (1, 2)), ("closed", (3,))))), (((2, 3),), ((1,), (4, 5, 6))))

    def test_a_ring_goes_along_the_first_body_first(self):
        one, other = body_of(2, ((1, 4), (2, 3))), body_of(2, ((1, 3), (2, 4)))
        self.assertEqual(web(one, other), (((1, 4, 2, 3),), ()))
        self.assertEqual(web(other, one), (((1, 3, 2, 4),), ()))

    def test_a_way_begins_with_its_lesser_end(self):
        self.assertEqual(web(body_of(2, ((1, 4),)), body_of(2, ((2, 4),))), ((), ((1, 4, 2), (3,))))
        self.assertEqual(web(body_of(2, ((2, 4),)), body_of(2, ((1, 4),))), ((), ((1, 4, 2), (3,))))
        self.assertEqual(web(body_of(2, ((1, 2), (3, 4))), body_of(2, ((1, 3),))), ((), ((2, 1, 3, 4),)))

    def test_all_pairs_of_bodies_of_few_pieces(self):
        for n in range(4):
            bodies = [body_of(n, joints) for joints in strands.all_joints(n)]
            for first in bodies:
                for second in bodies:
                    self.check(first, second)

    def test_longer_bodies(self):
        for first, second in strands.long_pairs():
            self.check(first, second)
            self.check(second, first)

    def test_equal_bodies(self):
        for body in strands.some_bodies(2):
            self.assertEqual(web(body, body), (body.joints(), tuple([(end,) for end in body.loose()])))

    def test_bodies_without_joints(self):
        for n in (0, 1, 7, 40):
            empty = body_of(n, ())
            self.assertEqual(web(empty, empty), ((), tuple([(end,) for end in range(1, 2 * n + 1)])))
            for joints in strands.some_joints(n, 4):
                full = body_of(n, joints)
                lone = [(end,) for end in full.loose()]
                self.assertEqual(web(full, empty), ((), tuple(sorted(lone + list(joints)))))
                self.assertEqual(web(empty, full), ((), tuple(sorted(lone + list(joints)))))

    def test_different_numbers_of_pieces(self):
        strands.check_refuses_pieces(self, InvalidBody, web)


class LeastRecuts(unittest.TestCase):
    def test_a_search_over_the_recuts(self):
        for n, joints, (found, _) in few_pairs():
            first = body_of(n, joints)
            self.assertEqual(len(found), len(strands.all_joints(n)))
            for there in found:
                self.assertEqual(least_recuts(first, body_of(n, there)), found[there], (joints, there))

    def test_longer_bodies(self):
        for first, second in strands.long_pairs():
            rings, ways = web(first, second)
            odd = sum(len(way) % 2 for way in ways)
            self.assertEqual(odd % 2, 0)
            self.assertEqual(least_recuts(first, second), first.n - len(rings) - odd // 2)
            self.assertEqual(least_recuts(second, first), least_recuts(first, second))
            self.assertEqual(least_recuts(first, first), 0)

    def test_examples(self):
        row = tuple(range(1, 41))
        linear, ring = Body(40, (("open", row),)), Body(40, (("closed", row),))
        self.assertEqual(least_recuts(linear, ring), 1)
        self.assertEqual(least_recuts(linear, body_of(40, ())), 39)
        self.assertEqual(least_recuts(ring, body_of(40, ())), 40)
        self.assertEqual(least_recuts(linear, Body(40, (("open", row[:10] + row[20:] + row[10:20]),))), 2)

    def test_different_numbers_of_pieces(self):
        strands.check_refuses_pieces(self, InvalidBody, least_recuts)


class RecutScript(unittest.TestCase):
    def check(self, first, second):
        before = first.joints(), second.joints()
        moves = recut_script(first, second)
        self.assertIs(type(moves), tuple)
        self.assertEqual(len(moves), least_recuts(first, second))
        here = first.joints()
        for move in moves:
            self.assertIs(type(move), tuple)
            here = strands.recuts_by_words(first.n, here)[move]
        self.assertEqual(here, second.joints())
        self.assertEqual(do_cuts(first, moves), second)
        self.assertEqual((first.joints(), second.joints()), before)

    def test_all_pairs_of_bodies_of_few_pieces(self):
        for n in range(4):
            bodies = [body_of(n, joints) for joints in strands.all_joints(n)]
            for first in bodies:
                for second in bodies:
                    self.check(first, second)

    def test_some_pairs_of_four_pieces(self):
        bodies = [body_of(4, joints) for joints in strands.all_joints(4)[::23]]
        for first in bodies:
            for second in bodies:
                self.check(first, second)

    def test_bodies_up_to_forty_pieces(self):
        for first, second in strands.long_pairs():
            moves = recut_script(first, second)
            self.assertEqual(len(moves), least_recuts(first, second))
            self.assertEqual({(type(move), len(move), move[0]) for move in moves} or {(tuple, 5, "recut")},
                             {(tuple, 5, "recut")})
            self.assertEqual(do_cuts(first, moves), second)
            if first.n <= 8:
                self.check(first, second)

    def test_no_recut(self):
        for body in strands.some_bodies(2):
            self.assertEqual(recut_script(body, body), ())

    def test_different_numbers_of_pieces(self):
        strands.check_refuses_pieces(self, InvalidBody, recut_script)


class RecutWays(unittest.TestCase):
    def test_a_count_over_all_rows_of_bodies(self):
        for n, joints, (_, ways) in few_pairs():
            first = body_of(n, joints)
            for there in ways:
                second = body_of(n, there)
                if first.loose() == second.loose():
                    self.assertEqual(recut_ways(first, second), ways[there], (joints, there))
                else:
                    with self.assertRaises(OutOfRange):
                        recut_ways(first, second)

    def test_longer_bodies(self):
        for first, second in strands.long_pairs():
            if first.loose() == second.loose():
                self.assertEqual(recut_ways(first, second), recut_ways(second, first))
            else:
                with self.assertRaises(OutOfRange):
                    recut_ways(first, second)

    def test_examples(self):
        row = tuple(range(1, 41))
        ring = Body(40, (("closed", row),))
        self.assertEqual(recut_ways(ring, ring), 1)
        self.assertEqual(recut_ways(body_of(40, ()), body_of(40, ())), 1)
        self.assertEqual(recut_ways(body_of(0, ()), body_of(0, ())), 1)
        # One ring of 2 k ends in all: d is k - 1, and what is left of the product is k ** (k - 2).
        whole = Body(3, (("closed", (1, 2, 3)),))
        other = body_of(3, ((1, 4), (2, 5), (3, 6)))
        self.assertEqual(len(web(whole, other)[0]), 1)
        self.assertEqual(recut_ways(whole, other), 3)
        # Two rings of 4 ends, between ends that are loose in both: 2! ways.
        first = Body(5, (("open", (1, 2, 3, 4, 5)),))
        self.assertEqual(recut_ways(first, Body(5, (("open", (1, -2, 3, -4, 5)),))), 2)

    def test_different_numbers_of_pieces(self):
        strands.check_refuses_pieces(self, InvalidBody, recut_ways)


if __name__ == "__main__":
    unittest.main()
