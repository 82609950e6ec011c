"""book.py: points 3.4, 3.5 and 7.1."""

import itertools
import random
import unittest

from tests import kin, strands
from tests.helpers import HUGE
from turnedrows.book import Book
from turnedrows.bodies import Body, body_of
from turnedrows.cuts import do_cut
from turnedrows.errors import InvalidBody, InvalidMove, InvalidName, OutOfRange, TooMany, UnknownName
from turnedrows.recuts import least_recuts
from turnedrows.singles import least_singles

GOOD_NAMES = (
    "a", "z", "0", "9", "abc", "a0", "0a", "123456789012", "abcdefghijkl", "zzzzzzzzzzzz", "m4n5", "00", "000",
    *"abcdefghijklmnopqrstuvwxyz0123456789",
)
BAD_NAMES = (
    "", "abcdefghijklm", "1234567890123", "A", "aB", "Z9", "a b", " a", "a ", " ", "a-b", "a_b", "a.b", "a:", ":",
    "a\n", "\n", "a/b", "[a]", "(a)", "+1", "-1", "a,b", "~", "`", "{", "@", "/", "a" * 1000, "\u00e4",
    "\u0661", "a\u00b2",
    "\uff41", "\u00aa", "\x00", "a\t",
)
OTHER_KINDS = (
    "", "swap", "next", "take", "blocks", "flip", "turn", "closed", "cut", "join", "Recut", "recuts", "singles",
)

LEAST = {"recut": least_recuts, "single": least_singles}

JOINTS = (((2, 3), (4, 5)), ((1, 6), (2, 4), (3, 5)), (), ((1, 2),), ((1, 2), (3, 4), (5, 6)))
BODIES = [body_of(3, joints) for joints in JOINTS]


def content(book):
    """The names of a book, each with the joints of its body."""
    return {name: book.body(name).joints() for name in book.names()}


def filled(many=30):
    book = Book(3)
    for at in range(many):
        book.put(f"n{at}", BODIES[at % 5])
    return book


class Made(unittest.TestCase):
    def test_numbers_of_pieces(self):
        for n in (0, 1, 2, 39, 40):
            book = Book(n)
            self.assertEqual(book.n, n)
            self.assertEqual(book.names(), ())
            self.assertIs(book.undo(), False)
            self.assertIs(book.redo(), False)
            book.put("a", body_of(n, ()))
            self.assertEqual(book.body("a"), body_of(n, ()))
        for n in (-1, 41, -2, 42, 100, HUGE, -HUGE):
            with self.assertRaises(OutOfRange):
                Book(n)

    def test_books_have_nothing_in_common(self):
        one, other = Book(3), Book(3)
        one.put("a", BODIES[0])
        self.assertEqual(other.names(), ())
        self.assertIs(other.undo(), False)


class Acts(unittest.TestCase):
    def refuse(self, book, error, act):
        """The act raises the error, and nothing changes, also not what can be taken back or done again."""
        before = content(book)
        with self.assertRaises(error) as caught:
            act(book)
        self.assertIs(type(caught.exception), error)
        self.assertEqual(content(book), before)

    def test_put(self):
        book = Book(3)
        book.put("b", BODIES[0])
        book.put("a", BODIES[1])
        self.assertEqual(book.names(), ("a", "b"))
        self.assertEqual((book.body("a"), book.body("b")), (BODIES[1], BODIES[0]))
        self.assertIs(type(book.body("a")), Body)
        # In place of an earlier one.
        book.put("a", BODIES[2])
        self.assertEqual(content(book), {"a": JOINTS[2], "b": JOINTS[0]})
        for _ in range(3):
            self.assertIs(book.undo(), True)
        self.assertIs(book.undo(), False)
        self.assertEqual(content(book), {})

    def test_names(self):
        for name in GOOD_NAMES:
            book = Book(3)
            book.put(name, BODIES[0])
            self.assertEqual(book.names(), (name,))
            self.assertEqual(book.body(name), BODIES[0])
        for name in BAD_NAMES:
            self.refuse(book, InvalidName, lambda book: book.put(name, BODIES[0]))
        for code in range(128):
            if chr(code) not in "abcdefghijklmnopqrstuvwxyz0123456789":
                for name in (chr(code), "a" + chr(code), chr(code) + "a"):
                    self.refuse(book, InvalidName, lambda book: book.put(name, BODIES[0]))

    def test_another_number_of_pieces(self):
        for n, m in ((3, 2), (3, 4), (0, 1), (40, 39), (1, 0)):
            book = Book(n)
            book.put("a", body_of(n, ()))
            for name in ("a", "b"):
                self.refuse(book, InvalidBody, lambda book: book.put(name, body_of(m, ())))

    def test_thirty_names(self):
        book = filled(30)
        self.assertEqual(len(book.names()), 30)
        for name in ("a", "z", "n30", "0"):
            self.refuse(book, TooMany, lambda book: book.put(name, BODIES[0]))
        # A name that is there can be put anew.
        book.put("n7", BODIES[4])
        self.assertEqual(book.body("n7"), BODIES[4])
        book.move("n7", ("cut", 1, 2))
        # One dropped, another one put.
        book.drop("n11")
        book.put("a", BODIES[1])
        self.refuse(book, TooMany, lambda book: book.put("n11", BODIES[1]))
        self.assertEqual(len(book.names()), 30)
        for _ in range(4):
            self.assertIs(book.undo(), True)
        self.assertEqual(content(book), content(filled(30)))
        self.assertIs(book.undo(), True)
        book.put("x", BODIES[0])
        self.assertEqual(len(book.names()), 30)

    def test_errors_of_put_in_their_order(self):
        book, four = filled(30), body_of(4, ())
        for name in BAD_NAMES:
            self.refuse(book, InvalidName, lambda book: book.put(name, four))
            self.refuse(book, InvalidName, lambda book: book.put(name, BODIES[0]))
        self.refuse(book, InvalidBody, lambda book: book.put("a", four))
        self.refuse(book, InvalidBody, lambda book: book.put("n1", four))
        self.refuse(book, TooMany, lambda book: book.put("a", BODIES[0]))

    def test_drop(self):
        book = filled(3)
        book.drop("n1")
        self.assertEqual(book.names(), ("n0", "n2"))
        for name in ("n1", "n3", "n", "a", *BAD_NAMES):
            self.refuse(book, UnknownName, lambda book: book.drop(name))
        self.assertIs(book.undo(), True)
        self.assertEqual(content(book), content(filled(3)))

    def test_move(self):
        book = Book(3)
        book.put("a", BODIES[0])
        for move in (("cut", 2, 3), ("join", 1, 2), ("recut", 1, 2, 4, 5), ("recut", 3, 0, 0, 6)):
            before = book.body("a")
            book.move("a", move)
            self.assertEqual(book.body("a"), do_cut(before, move))
            self.assertIs(book.undo(), True)
            self.assertEqual(book.body("a"), before)
            self.assertIs(book.redo(), True)
        self.assertEqual(BODIES[0].joints(), JOINTS[0])
        for move in (
            ("cut", 1, 6), ("join", 2, 3), ("recut", 0, 0, 0, 0), ("swap", 0, 1), (), ("cut", 2), ("cut", 3, 2),
        ):
            self.refuse(book, InvalidMove, lambda book: book.move("a", move))
            for name in ("b", "aa", *BAD_NAMES):
                self.refuse(book, UnknownName, lambda book: book.move(name, move))

    def test_body(self):
        book = filled(3)
        self.assertEqual([book.body(name) for name in book.names()], BODIES[:3])
        for name in ("n3", "n", "a", *BAD_NAMES):
            self.refuse(book, UnknownName, lambda book: book.body(name))

    def test_order_of_the_names(self):
        names = (
            "0", "00", "01", "09", "0a", "1", "10", "2", "9z", "a", "a0", "a00", "a1", "a9", "aa", "aaa", "ab", "b",
            "ba", "z9", "zz",
        )
        for seed in range(5):
            book = Book(3)
            for name in random.Random(seed).sample(names, len(names)):
                book.put(name, BODIES[0])
            self.assertIs(type(book.names()), tuple)
            self.assertEqual(book.names(), names)

    def test_a_refused_act_takes_nothing_from_what_can_be_done_again(self):
        refused = (
            (InvalidName, lambda book: book.put("A", BODIES[0])),
            (InvalidBody, lambda book: book.put("a", body_of(4, ()))),
            (UnknownName, lambda book: book.drop("b")), (UnknownName, lambda book: book.move("b", ("cut", 2, 3))),
            (InvalidMove, lambda book: book.move("n1", ("cut", 2, 3))), (UnknownName, lambda book: book.body("b")),
            (OutOfRange, lambda book: book.table("swap")), (OutOfRange, lambda book: book.nearest("n1", "swap")),
            (UnknownName, lambda book: book.nearest("b", "recut")),
        )
        book = filled(3)
        book.drop("n0")
        self.assertIs(book.undo(), True)
        for error, act in refused:
            self.refuse(book, error, act)
        self.assertIs(book.redo(), True)
        self.assertEqual(book.names(), ("n1", "n2"))
        for error, act in refused:
            self.refuse(book, error, act)
        self.assertIs(book.undo(), True)
        self.assertEqual(content(book), content(filled(3)))
        # The 31st name.
        book = filled(30)
        book.move("n0", ("cut", 2, 3))
        book.undo()
        self.refuse(book, TooMany, lambda book: book.put("a", BODIES[0]))
        self.assertIs(book.redo(), True)
        self.assertEqual(book.body("n0").joints(), ((4, 5),))

    def test_an_act_that_changes_nothing_is_an_act(self):
        book = Book(3)
        book.put("a", BODIES[0])
        book.put("b", BODIES[0])
        book.undo()
        book.put("a", BODIES[0])
        self.assertIs(book.redo(), False)
        book.move("a", ("recut", 1, 0, 0, 0))
        self.assertEqual(content(book), {"a": JOINTS[0]})
        self.assertEqual([book.undo() for _ in range(4)], [True, True, True, False])
        self.assertEqual([book.redo() for _ in range(4)], [True, True, True, False])

    def test_undo_and_redo(self):
        book = filled(2)
        states = [content(filled(0)), content(filled(1)), content(filled(2))]
        book.move("n1", ("cut", 1, 6))
        states.append(content(book))
        book.drop("n0")
        states.append(content(book))
        book.put("n1", BODIES[4])
        states.append(content(book))
        for _ in range(3):
            for state in states[-2::-1]:
                self.assertIs(book.undo(), True)
                self.assertEqual(content(book), state)
            self.assertIs(book.undo(), False)
            self.assertEqual(content(book), {})
            for state in states[1:]:
                self.assertIs(book.redo(), True)
                self.assertEqual(content(book), state)
            self.assertIs(book.redo(), False)
        book.undo()
        book.undo()
        book.drop("n1")
        self.assertIs(book.redo(), False)
        self.assertEqual(content(book), {"n0": JOINTS[0]})
        self.assertIs(book.undo(), True)
        self.assertEqual(content(book), states[3])

    def test_long_rows_of_acts(self):
        for seed in range(12):
            self.run_acts(random.Random(f"acts {seed}"), 400)

    def run_acts(self, chance, many):
        """Acts on a book against a plain list of states, of which one is the state now."""
        names = [f"{letter}{digit}" for letter in "abcd" for digit in "01234567"]
        book, states, now = Book(3), [{}], 0
        for _ in range(many):
            act = chance.choice(("put", "put", "put", "drop", "move", "move", "undo", "undo", "redo", "forget"))
            state, name = dict(states[now]), chance.choice(names)
            if act == "undo":
                self.assertIs(book.undo(), now > 0)
                now = max(now - 1, 0)
            elif act == "redo":
                self.assertIs(book.redo(), now < len(states) - 1)
                now = min(now + 1, len(states) - 1)
            elif act == "forget":
                if chance.random() < 0.1:
                    book.forget()
                    states, now = [state], 0
            elif act == "put" and (name in state or len(state) < 30):
                state[name] = chance.choice(JOINTS)
                book.put(name, body_of(3, state[name]))
                states, now = states[:now + 1] + [state], now + 1
            elif act == "put":
                self.refuse(book, TooMany, lambda book: book.put(name, BODIES[0]))
            elif name not in state:
                self.refuse(book, UnknownName, lambda book: book.drop(name))
                self.refuse(book, UnknownName, lambda book: book.move(name, ("cut", 2, 3)))
            elif act == "drop":
                del state[name]
                book.drop(name)
                states, now = states[:now + 1] + [state], now + 1
            else:
                moves = {**strands.recuts_by_words(3, state[name]), **strands.singles_by_words(3, state[name])}
                move = chance.choice(sorted(moves))
                state[name] = moves[move]
                book.move(name, move)
                states, now = states[:now + 1] + [state], now + 1
            self.assertEqual(content(book), states[now])
            self.assertEqual(book.names(), tuple(sorted(states[now])))


class Forgotten(unittest.TestCase):
    def test_forget(self):
        book = filled(3)
        book.undo()
        book.forget()
        self.assertEqual(content(book), content(filled(2)))
        self.assertIs(book.undo(), False)
        self.assertIs(book.redo(), False)
        book.drop("n0")
        self.assertIs(book.undo(), True)
        self.assertIs(book.undo(), False)
        self.assertIs(book.redo(), True)
        self.assertIs(book.redo(), False)
        self.assertEqual(book.names(), ("n1",))

    def test_copy(self):
        for book in (filled(4), filled(30), filled(0)):
            before = content(book)
            other = book.copy()
            self.assertIs(type(other), Book)
            self.assertEqual((other.n, content(other)), (book.n, before))
            self.assertIs(other.undo(), False)
            self.assertIs(other.redo(), False)
            self.assertEqual(content(other), before)
            self.assertIs(book.undo(), before != {})
            book.redo()

    def test_changes_of_one_do_not_touch_the_other(self):
        book = filled(4)
        book.drop("n0")
        book.undo()
        before = content(book)
        other = book.copy()
        other.put("a", BODIES[0])
        other.drop("n1")
        other.move("n0", ("cut", 2, 3))
        other.put("n2", BODIES[4])
        self.assertEqual(content(book), before)
        self.assertIs(book.redo(), True)
        self.assertEqual(book.names(), ("n1", "n2", "n3"))
        there = content(other)
        while book.undo():
            self.assertEqual(content(other), there)
        book.put("n2", BODIES[1])
        book.move("n2", ("cut", 1, 6))
        self.assertEqual(content(other), there)
        self.assertEqual([other.undo() for _ in range(5)], [True, True, True, True, False])
        self.assertEqual(content(other), before)

    def test_copy_of_a_copy_after_undo(self):
        book = filled(3)
        book.undo()
        other = book.copy().copy()
        self.assertEqual(content(other), content(filled(2)))
        self.assertIs(other.redo(), False)


class Compared(unittest.TestCase):
    def nearest_by_words(self, bodies, name, kind):
        """The first name in ascending order, of all others, with the least distance."""
        best = None
        for other in sorted(bodies):
            if other != name:
                far = LEAST[kind](bodies[name], bodies[other])
                if best is None or far < best[0]:
                    best = far, other
        return None if best is None else best[1]

    def test_both_kinds(self):
        for n in (0, 1, 3, 8, 40):
            for k in (1, 2, 3, 9, 30):
                for bodies in kin.kin(n, k)[:3]:
                    names = random.Random(f"{n} {k}").sample([a + b for a in "ab01" for b in "xyz0123456"], k)
                    book, held = Book(n), dict(zip(names, bodies))
                    for name, body in held.items():
                        book.put(name, body)
                    for kind in ("recut", "single"):
                        self.assertEqual(book.table(kind), tuple([
                            tuple([LEAST[kind](held[one], held[other]) for other in sorted(held)])
                            for one in sorted(held)
                        ]))
                        for name in names:
                            self.assertEqual(book.nearest(name, kind), self.nearest_by_words(held, name, kind))

    def test_examples(self):
        book = Book(3)
        self.assertEqual(book.table("recut"), ())
        self.assertEqual(book.table("single"), ())
        book.put("b", BODIES[0])
        self.assertEqual(book.table("single"), ((0,),))
        self.assertIsNone(book.nearest("b", "recut"))
        self.assertIsNone(book.nearest("b", "single"))
        book.put("a", BODIES[1])
        self.assertEqual(book.table("single"), ((0, 5), (5, 0)))
        self.assertEqual(book.table("recut"), ((0, 2), (2, 0)))
        self.assertEqual((book.nearest("a", "recut"), book.nearest("b", "single")), ("b", "a"))

    def test_several_at_the_same_distance(self):
        for names in itertools.permutations(("a", "1", "b", "a1")):
            book = Book(3)
            for name in names:
                book.put(name, BODIES[0])
            for kind in ("recut", "single"):
                self.assertEqual([book.nearest(name, kind) for name in ("1", "a", "a1", "b")], ["a", "1", "1", "1"])
                self.assertEqual(book.table(kind), ((0,) * 4,) * 4)

    def test_the_kinds_differ(self):
        # A body of 40 pieces with one turned stretch, and one that is cut at three places.
        row = tuple(range(1, 41))
        book = Book(40)
        book.put("a", Body(40, (("open", row),)))
        book.put("b", Body(40, (("open", row[:10] + tuple([-x for x in row[20:9:-1]]) + row[21:]),)))
        book.put("c", Body(40, (("open", row[:10]), ("open", row[10:20]), ("open", row[20:30]), ("open", row[30:]))))
        self.assertEqual(book.table("recut")[0], (0, 1, 3))
        self.assertEqual(book.table("single")[0], (0, 4, 3))
        self.assertEqual((book.nearest("a", "recut"), book.nearest("a", "single")), ("b", "c"))

    def test_another_kind_ahead_of_an_unknown_name(self):
        for book in (filled(0), filled(3)):
            for kind in OTHER_KINDS:
                with self.assertRaises(OutOfRange):
                    book.table(kind)
                for name in ("n0", "n9", "", "A"):
                    with self.assertRaises(OutOfRange):
                        book.nearest(name, kind)
            for kind in LEAST:
                for name in ("n9", "a", *BAD_NAMES):
                    with self.assertRaises(UnknownName):
                        book.nearest(name, kind)

    def test_nothing_changes(self):
        book = filled(3)
        book.undo()
        before = content(book)
        book.table("recut")
        book.nearest("n0", "single")
        book.names()
        book.body("n1")
        book.copy()
        self.assertEqual(content(book), before)
        self.assertIs(book.redo(), True)


if __name__ == "__main__":
    unittest.main()
