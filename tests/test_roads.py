"""roads.py: what lies on the shortest roads."""

import itertools
import unittest

from tests import helpers, kin, strands
from tests.helpers import BAD_ROWS, BAD_SIGNED, FORTY, NEGATIVE
from tests.kinds import KINDS, OF_BODIES, OTHER_KINDS, PLAIN, SIGNED, check_refuses_kind, pairs_of
from turnedrows.bodies import Body, body_of
from turnedrows.closed import opened
from turnedrows.errors import InvalidBody, InvalidRow, OutOfRange
from turnedrows.fewest import least
from turnedrows.roads import is_between, stages


def opened_by_words(row):
    """The reading of a closed row that begins with n, with the sign plus."""
    back = tuple([-x for x in reversed(row)])
    for reading in [way[at:] + way[:at] for way in (row, back) for at in range(len(row))]:
        if reading[0] == len(row):
            return reading
    return ()


def neighbors(kind, here):
    """All rows, or the joints of all bodies, that come from one by a move of a kind, by the words of the document."""
    if kind in PLAIN:
        return {helpers.after(here, move) for move in helpers.plain_moves(kind, len(here))}
    if kind in SIGNED:
        moves = [move for move in helpers.all_turns(len(here)) if kind == "turn" or move[1] > 0]
        return {helpers.after_turn(here, move) for move in moves}
    moves = strands.recuts_by_words if kind == "recut" else strands.singles_by_words
    return set(moves(here.n, here.joints()).values())


def distances(kind, first):
    """From a row or the joints of a body on, breadth first: the least number of moves to each."""
    found = {first: 0}
    queue = [first]
    for here in queue:
        value = body_of(2, here) if kind in OF_BODIES else here
        for there in neighbors(kind, value):
            if there not in found:
                found[there] = found[here] + 1
                queue.append(there)
    return found


class Stages(unittest.TestCase):
    def check(self, kind, first, second):
        found = stages(kind, first, second)
        self.assertIs(type(found), tuple)
        self.assertEqual(len(found), least(kind, first, second) + 1)
        if kind == "closed":
            self.assertEqual((found[0], found[-1]), (opened_by_words(first), opened_by_words(second)))
        else:
            self.assertEqual((found[0], found[-1]), (first, second))
        self.assertEqual({type(here) for here in found}, {Body if kind in OF_BODIES else tuple})
        is_body = kind in OF_BODIES
        for here, there in zip(found, found[1:]):
            if (here.n if is_body else len(here)) < 14:
                self.assertIn(there.joints() if is_body else there, neighbors(kind, here), (kind, here, there))
            else:
                self.assertEqual(least(kind, here, there), 1)

    def test_each_kind(self):
        for kind in KINDS:
            for first, second in pairs_of(kind):
                self.check(kind, first, second)

    def test_examples(self):
        self.assertEqual(stages("swap", (2, 1), (2, 1)), ((2, 1),))
        self.assertEqual(stages("swap", (2, 1), (1, 2)), ((2, 1), (1, 2)))
        self.assertEqual(stages("closed", (-1, -2), (2, -1)), ((2, 1), (2, -1)))
        self.assertEqual(stages("closed", (1, -2), (2, -1)), ((2, -1),))
        for kind in KINDS:
            empty = body_of(0, ()) if kind in OF_BODIES else ()
            self.assertEqual(stages(kind, empty, empty), (empty,))

    def test_errors(self):
        for kind in OTHER_KINDS:
            for first, second in (((1,), (1,)), ((1, 1), (1, 2)), ((1,), (1, 2)), (body_of(1, ()), body_of(2, ()))):
                with self.assertRaises(OutOfRange):
                    stages(kind, first, second)
        for kind, n in (("flip", 8), ("flip", 40), ("turn", 13), ("turn", 40), ("closed", 14), ("closed", 40)):
            with self.assertRaises(OutOfRange):
                stages(kind, FORTY[:n], FORTY[:n])
        for kind in KINDS:
            check_refuses_kind(self, kind, stages)


class IsBetween(unittest.TestCase):
    def check_all(self, kind, things, read=lambda thing: thing, key=lambda thing: thing):
        """For all triples of some things, against a breadth-first search."""
        found = {key(thing): distances(kind, key(thing)) for thing in things}
        seen = set()
        for first, middle, second in itertools.product(things, repeat=3):
            one, two, three = key(first), key(middle), key(second)
            answer = is_between(kind, first, middle, second)
            self.assertIs(type(answer), bool)
            self.assertEqual(answer, found[one][two] + found[two][three] == found[one][three], (first, middle, second))
            seen.add(answer)
        return seen

    def test_plain_rows(self):
        for kind in PLAIN:
            for n in range(4):
                self.check_all(kind, helpers.plain_rows(n))
            self.assertEqual(self.check_all(kind, helpers.plain_rows(4)[::3]), {True, False})

    def test_signed_rows(self):
        for n in range(3):
            self.check_all("turn", helpers.signed_rows(n))
        self.assertEqual(self.check_all("turn", helpers.signed_rows(3)[::5]), {True, False})

    def test_closed_rows(self):
        for n in range(1, 3):
            self.check_all("closed", helpers.signed_rows(n), key=opened_by_words)
        self.assertTrue(is_between("closed", (), (), ()))
        self.assertEqual(self.check_all("closed", helpers.signed_rows(3)[::5], key=opened_by_words), {True, False})
        for n in (3, 4):
            readings = [row for row in helpers.signed_rows(n) if opened(row) == opened(helpers.signed_rows(n)[1])]
            for row in readings:
                self.assertTrue(is_between("closed", readings[0], row, readings[-1]))

    def test_bodies(self):
        for kind in OF_BODIES:
            self.assertEqual(self.check_all(kind, kin.all_bodies(2), key=lambda body: body.joints()), {True, False})

    def test_first_and_second_are_between(self):
        for kind in KINDS:
            for first, second in pairs_of(kind):
                self.assertIs(is_between(kind, first, first, second), True)
                self.assertIs(is_between(kind, first, second, second), True)
                if least(kind, first, second) > 0:
                    self.assertIs(is_between(kind, first, second, first), False)

    def test_stages_are_between_and_others_are_not(self):
        for kind in KINDS:
            for first, second in pairs_of(kind)[-6:]:
                for here in stages(kind, first, second)[::3]:
                    self.assertIs(is_between(kind, first, here, second), True)
        row = FORTY[1:] + (1,)
        self.assertIs(is_between("take", FORTY, FORTY[::-1], row), False)
        self.assertIs(is_between("turn", FORTY, NEGATIVE, FORTY[:39] + (-40,)), False)
        self.assertIs(is_between("closed", FORTY, row[:39] + (-1,), row[:39] + (1,)), False)

    def test_another_kind_ahead_of_all(self):
        for kind in OTHER_KINDS:
            for told in (((1,),) * 3, ((1, 1), (1,), ()), ((), (1,), (1,)), [body_of(n, ()) for n in (1, 2, 3)]):
                with self.assertRaises(OutOfRange):
                    is_between(kind, *told)

    def test_more_pieces_than_the_flips_take(self):
        for n in (8, 9, 40):
            for told in itertools.permutations((FORTY[:n], FORTY[:n], FORTY[:n][::-1])):
                with self.assertRaises(OutOfRange):
                    is_between("flip", *told)

    def test_long_rows(self):
        # Only the scripts of turns have a bound.
        for kind in SIGNED:
            for n in (13, 14, 40):
                self.assertIs(is_between(kind, FORTY[:n], FORTY[:n], NEGATIVE[:n]), True)

    def test_bad_rows(self):
        for kinds, bad_ones in ((PLAIN, BAD_ROWS), (SIGNED, BAD_SIGNED)):
            for kind, bad in itertools.product(kinds, bad_ones):
                for good in (FORTY[:len(bad)], FORTY[:8], ()):
                    for told in itertools.permutations((bad, good, good)):
                        with self.assertRaises(InvalidRow, msg=(kind, told)):
                            is_between(kind, *told)

    def test_different_numbers_of_pieces(self):
        for n, m in ((0, 1), (1, 0), (2, 3), (7, 8), (8, 7), (8, 9), (12, 13), (40, 39)):
            for kind in PLAIN + SIGNED:
                for told in itertools.permutations((FORTY[:n], FORTY[:n], FORTY[:m])):
                    with self.assertRaises(InvalidRow, msg=(kind, told)):
                        is_between(kind, *told)
            for kind in OF_BODIES:
                for told in itertools.permutations((body_of(n, ()), body_of(n, ()), body_of(m, ()))):
                    with self.assertRaises(InvalidBody):
                        is_between(kind, *told)


if __name__ == "__main__":
    unittest.main()
