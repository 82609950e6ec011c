"""papers.py: point 5.1, with the points 1.3 to 1.5, 2.2, 2.3 and 3.5 that it rests on."""

import itertools
import random
import unittest

from tests import helpers, kin, strands
from tests.helpers import HUGE
from tests.kinds import check_refuses_kind
from turnedrows.blocks import least_blocks
from turnedrows.bodies import body_of
from turnedrows.drawing import drawing_rings
from turnedrows.errors import OutOfRange
from turnedrows.nexts import least_nexts
from turnedrows.papers import paper, shown
from turnedrows.recuts import least_recuts, web
from turnedrows.signed import relative_signed
from turnedrows.singles import least_singles
from turnedrows.swaps import least_swaps
from turnedrows.takes import least_takes

WORDS = {
    "swap": "rings", "next": "pairs", "take": "falls", "blocks": "blocks", "turn": "turns", "recut": "web",
    "single": "joints",
}
LEAST = {
    "swap": least_swaps, "next": least_nexts, "take": least_takes, "blocks": least_blocks, "recut": least_recuts,
    "single": least_singles,
    "turn": lambda first, second: len(first) + 1 - len(drawing_rings(relative_signed(first, second))),
}
PLAIN = ("swap", "next", "take", "blocks")
OTHER_KINDS = (
    "", "flip", "closed", "rings", "pairs", "falls", "turns", "web", "joints", "Swap", "swaps", "cut", "join",
)

RINGED = {"swap": 1, "blocks": 1, "turn": 2, "recut": 2}


def pairs_of(kind):
    """Pairs of rows or bodies to try for a kind, up to 40 pieces."""
    if kind in PLAIN:
        found = [pair for n in range(4) for pair in itertools.product(helpers.plain_rows(n), repeat=2)]
        return found + helpers.long_pairs()
    if kind == "turn":
        found = [pair for n in range(3) for pair in itertools.product(helpers.signed_rows(n), repeat=2)]
        for n in (3, 8, 20, 40):
            found += zip(helpers.some_signed(n, 5, 1), helpers.some_signed(n, 5, 2))
            found += [(row, row) for row in helpers.some_signed(n, 1)]
        return found
    return [pair for n in range(3) for pair in itertools.product(kin.all_bodies(n), repeat=2)] + strands.long_pairs()


def turned_ring(ring, by):
    return ring[by:] + ring[:by]


def backward(ring):
    """The reading of a ring, whose lines have no direction, that goes along its first line the other way."""
    return ring[1::-1] + ring[:1:-1]


def shuffled(kind, value, chance):
    """Another paper for the same rows: in another order, rings read from another place, fewer or more items."""
    word, *parts = value
    parts = [chance.sample(part, len(part)) for part in parts]
    if kind in RINGED:
        step = RINGED[kind]
        parts[0] = [turned_ring(ring, step * chance.randrange(len(ring) // step)) for ring in parts[0]]
        if step == 2:
            parts[0] = [chance.choice((ring, backward(ring))) for ring in parts[0]]
    if kind == "recut":
        parts[1] = [chance.choice((way, way[::-1])) for way in parts[1]]
    return (word, *[tuple(part) for part in parts])


class Papers(unittest.TestCase):
    def test_each_kind_shows_the_least_number(self):
        for kind in WORDS:
            for first, second in pairs_of(kind):
                value = paper(kind, first, second)
                self.assertIs(type(value), tuple)
                self.assertEqual(value[0], WORDS[kind])
                self.assertEqual(len(value), 3 if kind == "recut" else 2)
                for part in value[1:]:
                    self.assertEqual({type(item) for item in (part, *part)}, {tuple})
                    self.assertLessEqual({type(number) for item in part for number in item}, {int})
                self.assertEqual(shown(kind, first, second, value), LEAST[kind](first, second), (kind, first, second))

    def test_other_papers_for_the_same_rows(self):
        chance = random.Random("papers")
        for kind in WORDS:
            for first, second in pairs_of(kind)[::3]:
                value = shuffled(kind, paper(kind, first, second), chance)
                least = LEAST[kind](first, second)
                self.assertEqual(shown(kind, first, second, value), least, (kind, first, second, value))

    def test_fewer_pairs_and_joints_and_more_falls(self):
        chance = random.Random("fewer")
        for kind in ("next", "single"):
            for first, second in pairs_of(kind)[::5]:
                word, pairs = paper(kind, first, second)
                for many in range(0, len(pairs) + 1, 7):
                    part = tuple(chance.sample(pairs, many))
                    self.assertEqual(shown(kind, first, second, (word, part)), many)
        for first, second in pairs_of("take")[::5]:
            _, falls = paper("take", first, second)
            single = tuple([(place,) for place in range(len(first))])
            self.assertEqual(shown("take", first, second, ("falls", single)), 0)
            for at, fall in enumerate(falls):
                more = falls[:at] + (fall[:1], fall[1:]) * (len(fall) > 1) + falls[at + 1:]
                if len(fall) > 1:
                    self.assertEqual(shown("take", first, second, ("falls", more)), len(first) - len(more))

    def test_rows_and_bodies_without_pieces(self):
        for kind, value in (
            ("swap", ("rings", ())), ("next", ("pairs", ())), ("take", ("falls", ())), ("blocks", ("blocks", ((1,),))),
            ("turn", ("turns", ((0, 1),))), ("recut", ("web", (), ())), ("single", ("joints", ())),
        ):
            empty = body_of(0, ()) if kind in ("recut", "single") else ()
            self.assertEqual(paper(kind, empty, empty), value)
            self.assertEqual(shown(kind, empty, empty, value), 0)
            for bad in ((value[0],) + ((),) * 3, (value[0], ((),)), (value[0], ((0,),)), (value[0], ((), (1,)))):
                self.assertIsNone(shown(kind, empty, empty, bad), (kind, bad))
        self.assertIsNone(shown("blocks", (), (), ("blocks", ())))
        self.assertIsNone(shown("turn", (), (), ("turns", ())))
        self.assertEqual(shown("turn", (), (), ("turns", ((1, 0),))), 0)
        empty = body_of(0, ())
        for bad in (((), ((),)), (((),), ()), ((), ((0,),)), (((1, 2),), ()), ((), ((1,), (2,)))):
            self.assertIsNone(shown("recut", empty, empty, ("web", *bad)))


class NoPapers(unittest.TestCase):
    """What is no paper of its kind shows nothing."""

    def refuse(self, kind, first, second, *values):
        for value in values:
            self.assertIsNone(shown(kind, first, second, value), (kind, value))

    def examples(self):
        first, second = body_of(3, ((2, 3), (4, 5))), body_of(3, ((2, 4), (3, 5), (1, 6)))
        row = (3, 1, 4, 2)
        return [
            ("swap", row, (1, 2, 3, 4)), ("next", row, (1, 2, 3, 4)), ("take", row, (1, 2, 3, 4)),
            ("blocks", row, (1, 2, 3, 4)), ("turn", (3, -1, 4, 2), (1, 2, 3, 4)), ("recut", first, second),
            ("single", first, second),
        ]

    def test_words_and_numbers_of_tuples(self):
        for kind, first, second in self.examples():
            word, *parts = paper(kind, first, second)
            self.assertIsNotNone(shown(kind, first, second, (word, *parts)))
            words = ["", kind, word.upper(), word[:-1], word + "s", *WORDS.values(), *WORDS]
            self.refuse(kind, first, second, *[(other, *parts) for other in words if other != word])
            self.refuse(kind, first, second, (word,), (word, *parts, ()), (word, *parts, *parts, *parts))
            self.refuse(kind, first, second, (word, *parts, ((0, 1),)), (word, *parts[1:]))

    def test_papers_of_other_kinds(self):
        for kind, first, second in self.examples():
            for other, one, two in self.examples():
                if other != kind:
                    self.refuse(kind, first, second, paper(other, one, two))
        # The rings of these three kinds are the same tuples.
        for kind, word in (("swap", "blocks"), ("blocks", "rings"), ("take", "rings"), ("swap", "falls")):
            self.refuse(kind, (1, 2, 3), (1, 2, 3), (word, paper(kind, (1, 2, 3), (1, 2, 3))[1]))

    def test_changed_items(self):
        """Each item of each tuple replaced, left out, put in twice, or exchanged with another one."""
        for kind, first, second in self.examples():
            word, *parts = paper(kind, first, second)
            for at, part in enumerate(parts):
                for change in self.changes(kind, part):
                    value = (word, *parts[:at], change, *parts[at + 1:])
                    self.refuse(kind, first, second, value)

    def changes(self, kind, part):
        for at, items in enumerate(part):
            around = part[:at], part[at + 1:]
            for k, item in enumerate(items):
                rest = items[:k], items[k + 1:]
                for other in (-1, -2, item - 12, item + 12, 100, HUGE, -HUGE, *items[:k], *items[k + 1:]):
                    yield (*around[0], (*rest[0], other, *rest[1]), *around[1])
                yield (*around[0], (*rest[0], *rest[1]), *around[1])
                yield (*around[0], (*rest[0], item, item, *rest[1]), *around[1])
                if len(items) > 2:
                    yield (*around[0], rest[0] + rest[1], (item,), *around[1])
            yield (*around[0], (), *around[1])
            yield (*part, ())
            yield (*part, items)
            if kind not in ("next", "single"):
                yield around[0] + around[1]

    def test_rings(self):
        # Place 0 leads to 2, 2 to 3, 3 to 1, 1 to 0.
        self.assertEqual(shown("swap", (3, 1, 4, 2), (1, 2, 3, 4), ("rings", ((3, 1, 0, 2),))), 3)
        self.refuse(
            "swap", (3, 1, 4, 2), (1, 2, 3, 4), *[("rings", rings) for rings in (
                ((0, 1, 3, 2),), ((0, 2, 3), (1,)), ((0,), (1,), (2,), (3,)), ((0, 2), (3, 1)), ((2, 3, 1),), ((0, 1),),
                ((0, 2, 3, 1), (0,)), ((0, 2, 3, 1, 0),), ((0, 2, 3, 1, 4),), ((-4, 2, 3, 1),), ((1, 3, 4, 2),), (),
                ((0, 2, 3, 1), ()), ((), (0, 2, 3, 1)), ((0, 3, 1, 2),),
            )],
        )
        self.assertEqual(shown("swap", (2, 1, 3), (1, 2, 3), ("rings", ((2,), (1, 0)))), 1)
        self.refuse("swap", (2, 1, 3), (1, 2, 3), ("rings", ((0, 1, 2),)), ("rings", ((0,), (1,), (2,))))

    def test_pairs(self):
        first, second = (3, 1, 4, 2), (1, 2, 3, 4)
        good = ((0, 1), (0, 3), (2, 3))
        for many in range(4):
            for pairs in itertools.permutations(good, many):
                self.assertEqual(shown("next", first, second, ("pairs", pairs)), many)
        for bad in (
            (1, 0), (3, 0), (0, 2), (1, 2), (1, 3), (0, 0), (3, 3), (0, 4), (3, 4), (-1, 0), (-4, 1), (-1, 3), (0, -1),
            (), (0,), (0, 1, 3), (0, 1, 0), (0, HUGE), (-HUGE, 0), (4, 5),
        ):
            for pairs in ((bad,), (bad, *good), (*good, bad), (good[0], bad, good[1])):
                self.refuse("next", first, second, ("pairs", pairs))
        for pair in good:
            self.refuse("next", first, second, ("pairs", (pair, pair)), ("pairs", (*good, pair)))

    def test_falls(self):
        first, second = (3, 1, 4, 2), (1, 2, 3, 4)
        for falls in (((0, 1), (2, 3)), ((0, 3), (1,), (2,)), ((0, 1), (2,), (3,)), ((2, 3), (0, 1))):
            self.assertEqual(shown("take", first, second, ("falls", falls)), 4 - len(falls))
        self.refuse(
            "take", first, second, *[("falls", falls) for falls in (
                ((1, 0), (2, 3)), ((0, 1), (3, 2)), ((0, 2), (1, 3)), ((1, 2), (0, 3)), ((0, 1, 3), (2,)),
                ((0, 1, 2, 3),),
                ((0, 1),), ((0, 1), (3,)), ((0, 1), (2, 3), (3,)), ((0, 1), (2, 3, 3)), ((0, 1), (2, 3), ()), (),
                ((0, 1), (2, 3), (4,)), ((0, 1), (2, -1)), ((-4, 1), (2, 3)), ((1, 2), (3, 4)), ((0, 1, 2, 3), ()),
            )],
        )

    def test_places_of_falls_ascend(self):
        # The numbers descend from place 2 to place 0 and from place 1 to place 0.
        row = (1, 3, 2)
        self.assertEqual(shown("take", row, (1, 2, 3), ("falls", ((1, 2), (0,)))), 1)
        self.refuse("take", row, (1, 2, 3), *[("falls", falls) for falls in (
            ((2, 0), (1,)), ((1, 0), (2,)), ((1, 2, 0),), ((2, 1), (0,)), ((0, 2), (1,)),
        )])
        self.refuse("take", (1, 2), (1, 2), ("falls", ((1, 0),)), ("falls", ((0, 1),)))

    def test_blocks(self):
        # Between 0 and 4 the row is 2 1 3: 1 leads to 2, at which 1 stands, 2 to 3, 3 to 1, and 4 to itself.
        first, second = (2, 1, 3), (1, 2, 3)
        for rings in (((1, 2, 3), (4,)), ((4,), (3, 1, 2)), ((2, 3, 1), (4,))):
            self.assertEqual(shown("blocks", first, second, ("blocks", rings)), 1)
        self.refuse(
            "blocks", first, second, *[("blocks", rings) for rings in (
                ((1, 3, 2), (4,)), ((1, 2, 3, 4),), ((1, 2), (3,), (4,)), ((1, 2, 3),), ((1, 2, 3), (4,), (5,)),
                ((1, 2, 3), (4,), (0,)), ((0, 1, 2), (3,)), ((1, 2, 3, 1), (4,)), ((1, 2, 3), (4,), ()), (),
                ((1, 2, 3), (4,), (4,)), ((1,), (2,), (3,), (4,)), ((1, 2, 3), (-1,)), ((1, 2, 3, 1, 2, 3), (4,)),
            )],
        )

    def test_turns(self):
        # The spots of the light lines are 0 and 1, 2 and 4, 3 and 5.
        first, second = (1, -2), (1, 2)
        for rings in (
            ((0, 1), (2, 3, 5, 4)), ((2, 3, 5, 4), (0, 1)), ((1, 0), (5, 4, 2, 3)), ((0, 1), (3, 2, 4, 5)),
            ((0, 1), (4, 5, 3, 2)),
        ):
            self.assertEqual(shown("turn", first, second, ("turns", rings)), 1)
        self.refuse(
            "turn", first, second, *[("turns", rings) for rings in (
                ((0, 1), (2, 4, 5, 3)), ((0, 1), (3, 5, 4, 2)), ((0, 1),), ((2, 3, 5, 4),), ((0, 1, 2, 3, 5, 4),), (),
                ((0, 1), (2, 3), (5, 4)), ((0, 1), (2, 4), (3, 5)), ((0, 1), (2, 3, 4, 5)), ((0,), (1,), (2, 3, 5, 4)),
                ((0, 1), (2, 3, 5, 4), ()), ((0, 1), (2, 3, 5, 4), (6, 7)), ((0, 1), (2, 3, 5, 4, 2, 3, 5, 4)),
                ((0, 1, 0, 1), (2, 3, 5, 4)), ((0, 1), (2, 3, 5), (4,)), ((0, 1), (2, 3, 5)), ((0, 1), (2, 3, 5, -4)),
                ((1, 2), (3, 4, 6, 5)), ((0, 1), (0, 1), (2, 3, 5, 4)),
            )],
        )

    def test_a_ring_with_an_odd_number_of_spots_or_ends(self):
        # All lines from one spot or end to the next one are there, but one of the kinds is met twice in a row.
        self.refuse("turn", (1,), (1,), ("turns", ((0, 1), (2, 3, 2))), ("turns", ((0,), (1,), (2,), (3,))))
        ring = body_of(2, ((1, 2), (3, 4)))
        self.refuse("recut", ring, ring, ("web", ((1,), (2,), (3, 4)), ()), ("web", ((1, 2, 3), (4,)), ()))

    def test_web(self):
        first, second = body_of(3, ((2, 3), (4, 5))), body_of(3, ((2, 4), (3, 5), (1, 6)))
        self.assertEqual(web(first, second), (((2, 3, 5, 4),), ((1, 6),)))
        for ring in ((2, 3, 5, 4), (3, 2, 4, 5), (5, 4, 2, 3), (4, 5, 3, 2)):
            for way in ((1, 6), (6, 1)):
                self.assertEqual(shown("recut", first, second, ("web", (ring,), (way,))), 2)
        for rings, ways in (
            (((2, 4, 5, 3),), ((1, 6),)), (((3, 5, 4, 2),), ((1, 6),)), (((2, 3), (4, 5)), ((1, 6),)),
            ((), ((2, 3, 5, 4), (1, 6))), ((), ((4, 2, 3, 5), (1, 6))), (((2, 3, 5, 4),), ((1,), (6,))),
            (((2, 3, 5, 4), (1, 6)), ()), (((2, 3, 5, 4), (6, 1)), ()), (((2, 3, 5, 4),), ()), ((), ((1, 6),)),
            ((), ((2, 3), (5, 4), (1, 6))), ((), ((3, 5), (2, 4), (1, 6))), (((2, 3, 4, 5),), ((1, 6),)),
            (((2, 3, 5, 4), ()), ((1, 6),)), (((2, 3, 5, 4),), ((1, 6), ())), (((2, 3, 5, 4),), ((1, 6), (7,))),
            (((2, 3, 5, 4),), ((1, 6), (0,))), (((2, 3, 5, 4, 2, 3, 5, 4),), ((1, 6),)),
            (((2, 3, 5, 4),), ((1, 6, 1),)),
            (((2, 3, 5, 4),), ((1, 6), (1, 6))), (((2, 3, 5), (4,)), ((1, 6),)), (((2, 3, 5, 4),), ((-1, 6),)),
            (((2, 3, 5, 4),), ((1, 2, 6),)),
        ):
            self.refuse("recut", first, second, ("web", rings, ways))

    def test_ways(self):
        # The first body has the joints (1, 2) and (3, 4), the second one (2, 3): the way 1 2 3 4; 5 and 6 are alone.
        first, second = body_of(3, ((1, 2), (3, 4))), body_of(3, ((2, 3),))
        for one, other in ((first, second), (second, first)):
            for way in ((1, 2, 3, 4), (4, 3, 2, 1)):
                for ways in itertools.permutations((way, (5,), (6,))):
                    self.assertEqual(shown("recut", one, other, ("web", (), ways)), 2)
            self.refuse(
                "recut", one, other, *[("web", (), ways) for ways in (
                    ((1, 2), (3, 4), (5,), (6,)), ((1,), (2, 3), (4,), (5,), (6,)), ((1, 2, 3), (4,), (5,), (6,)),
                    ((1, 2, 3, 4), (5, 6)), ((1, 2, 3, 4, 5), (6,)), ((1,), (2,), (3,), (4,), (5,), (6,)),
                    ((2, 1, 4, 3), (5,), (6,)), ((5, 1, 2, 3, 4), (6,)),
                )],
            )
        # A pair that is a joint of both bodies is a ring, and no way.
        both = body_of(1, ((1, 2),))
        self.assertEqual(shown("recut", both, both, ("web", ((2, 1),), ())), 0)
        self.refuse("recut", both, both, ("web", (), ((1, 2),)), ("web", (), ((1,), (2,))), ("web", ((1,), (2,)), ()))
        # A joint of just one body is a way, and no ring.
        none = body_of(1, ())
        for one, other in ((both, none), (none, both)):
            self.assertEqual(shown("recut", one, other, ("web", (), ((2, 1),))), 1)
            self.refuse("recut", one, other, ("web", ((1, 2),), ()), ("web", (), ((1,), (2,))))

    def test_joints(self):
        first, second = body_of(3, ((2, 3), (4, 5))), body_of(3, ((2, 3), (1, 6), (4, 5)))
        self.assertEqual(shown("single", first, second, ("joints", ((1, 6),))), 1)
        second = body_of(3, ((2, 3), (1, 4)))
        good = ((4, 5), (1, 4))
        for many in range(3):
            for joints in itertools.permutations(good, many):
                self.assertEqual(shown("single", first, second, ("joints", joints)), many)
        for bad in (
            (2, 3), (5, 4), (4, 1), (1, 6), (4, 4), (0, 4), (4,), (), (4, 5, 1), (-4, 5), (4, HUGE), (6, 7), (1, 5),
            (3, 2),
        ):
            for joints in ((bad,), (bad, *good), (*good, bad)):
                self.refuse("single", first, second, ("joints", joints))
        for joint in good:
            self.refuse("single", first, second, ("joints", (joint, joint)), ("joints", (*good, joint)))


class Refused(unittest.TestCase):
    def test_other_kinds_ahead_of_all(self):
        rows = ((1, 2), (2, 1)), ((1, 1), (1, 2)), ((1,), (1, 2)), (body_of(1, ()), body_of(2, ()))
        for kind in OTHER_KINDS:
            for first, second in rows:
                with self.assertRaises(OutOfRange):
                    paper(kind, first, second)
                for value in (("rings", ((0,), (1,))), ("flips", ()), ("web", (), ())):
                    with self.assertRaises(OutOfRange):
                        shown(kind, first, second, value)

    def test_bad_rows_ahead_of_bad_papers(self):
        for kind in WORDS:
            check_refuses_kind(self, kind, paper)
            for value in ((WORDS[kind], ()), (WORDS[kind], (), ()), ("", ((),)), (WORDS[kind], ((0,), (0,), (-1,)))):
                def ask(kind, first, second, value=value):
                    shown(kind, first, second, value)
                check_refuses_kind(self, kind, ask)


if __name__ == "__main__":
    unittest.main()
