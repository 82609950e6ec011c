"""booktext.py: points 6.1, 6.2 and 7.2."""

import random
import unittest

from tests import strands
from tests.helpers import HUGE
from tests.test_book import BAD_NAMES, BODIES, content, filled
from tests.test_text import loose_body
from turnedrows.bodies import body_of
from turnedrows.book import Book
from turnedrows.booktext import read_book, write_book
from turnedrows.errors import InvalidText, OutOfRange
from turnedrows.text import write_body

NAMES = ("0", "00", "0a", "9", "a", "a0", "a00", "aa", "abcdefghijkl", "b", "z", "zz")


def some_book(n, many, seed=1):
    chance = random.Random(f"book {n} {many} {seed}")
    names = chance.sample([a + b for a in ("", "a", "0", "zz") for b in "abcdefghij0123456789"], many)
    book = Book(n)
    for at, name in enumerate(names):
        joints = strands.some_joints(n, 4, seed)[at % 4]
        book.put(name, body_of(n, joints))
    return book


class Written(unittest.TestCase):
    def test_examples(self):
        self.assertEqual(write_book(Book(3)), "")
        self.assertEqual(write_book(Book(0)), "")
        self.assertEqual(write_book(filled(1)), "n0: [+1 +2 +3]")
        self.assertEqual(write_book(filled(3)), "n0: [+1 +2 +3]\nn1: (+1 -2 +3)\nn2: [+1] [+2] [+3]")
        book = Book(0)
        book.put("b", body_of(0, ()))
        self.assertEqual(write_book(book), "b:")
        book.put("a1", body_of(0, ()))
        self.assertEqual(write_book(book), "a1:\nb:")

    def test_lines_in_ascending_order(self):
        for seed in range(5):
            book = Book(3)
            for name in random.Random(seed).sample(NAMES, len(NAMES)):
                book.put(name, BODIES[0])
            self.assertEqual(write_book(book), "\n".join([f"{name}: [+1 +2 +3]" for name in NAMES]))

    def test_the_book_stays(self):
        book = filled(3)
        book.undo()
        write_book(book)
        self.assertEqual(content(book), content(filled(2)))
        self.assertIs(book.redo(), True)


class Read(unittest.TestCase):
    def check(self, n, text, wanted):
        book = read_book(n, text)
        self.assertIs(type(book), Book)
        self.assertEqual(book.n, n)
        self.assertEqual(content(book), wanted)
        # Nothing can be taken back or done again.
        self.assertIs(book.undo(), False)
        self.assertIs(book.redo(), False)
        self.assertEqual(content(book), wanted)
        return book

    def test_read_back(self):
        for n in (0, 1, 2, 5, 13, 40):
            for many in (0, 1, 2, 7, 29, 30):
                book = some_book(n, many)
                again = self.check(n, write_book(book), content(book))
                self.assertEqual(write_book(again), write_book(book))

    def test_no_names(self):
        for n in (0, 1, 7, 40):
            self.check(n, "", {})

    def test_lines_in_any_order(self):
        for seed in range(5):
            book = some_book(5, 30, seed)
            lines = write_book(book).split("\n")
            random.Random(seed).shuffle(lines)
            self.check(5, "\n".join(lines), content(book))

    def test_bodies_in_any_form(self):
        chance = random.Random("forms")
        for n in (1, 2, 5, 13, 40):
            book = some_book(n, 12)
            lines = [f"{name}:{loose_body(book.body(name), chance)}".replace("\n", " ") for name in book.names()]
            self.check(n, "\n".join(lines), content(book))
        # Of the forms of the text of a body, a line has those without newlines.
        self.check(3, "a:[1 2 3]", {"a": ((2, 3), (4, 5))})
        self.check(3, "a:   [1 2 3]  ", {"a": ((2, 3), (4, 5))})
        self.check(3, "a:(3)[ -2 1]", {"a": ((1, 3), (5, 6))})
        self.check(0, "a:", {"a": ()})
        self.check(0, "a: \nb:   ", {"a": (), "b": ()})

    def test_a_book_that_was_read_goes_on(self):
        book = read_book(3, "b: [1 2 3]\na: (1 2 3)")
        book.put("c", BODIES[1])
        book.move("a", ("cut", 2, 3))
        self.assertEqual([book.undo() for _ in range(3)], [True, True, False])
        self.assertEqual(content(book), {"a": ((1, 6), (2, 3), (4, 5)), "b": ((2, 3), (4, 5))})


class Refused(unittest.TestCase):
    def refuse(self, n, *texts):
        for text in texts:
            with self.assertRaises(InvalidText, msg=text):
                read_book(n, text)

    def test_lines(self):
        self.refuse(
            3, "a", "a [1 2 3]", "[1 2 3]", "a[1 2 3]", "a;[1 2 3]", " ", "\n", "\n\n", "a: [1 2 3]\n", "\na: [1 2 3]",
            "a: [1 2 3]\n\nb: [1 2 3]", "a: [1 2 3]\n ", "a: [1 2 3]\nb", "a: [1 2 3]\nb [1 2 3]", "a: [1 2\n3]",
            "a:\n[1 2 3]", "a: [1 2 3] b: [1 2 3]", "a: [1 2 3]\n\n", "a: [1 2 3]:", "a: : [1 2 3]", "a::[1 2 3]",
            "a:b: [1 2 3]", "a: [1 2 3]\r\nb: [1 2 3]", "a: [1 2 3]; b: [1 2 3]",
        )
        self.refuse(0, " ", "\n", "a:\n", "\na:", "a:\n\nb:", "a", "a:\nb", "a::", "a:b:")

    def test_names(self):
        for name in BAD_NAMES:
            self.refuse(3, f"{name}: [1 2 3]", f"b: [1 2 3]\n{name}: [1 2 3]", f"{name}: [1 2 3]\nb: [1 2 3]")
            self.refuse(0, f"{name}:")
        self.refuse(3, ": [1 2 3]", ":", "a : [1 2 3]", " a: [1 2 3]", "a: [1 2 3]\n b: [1 2 3]")

    def test_a_name_twice(self):
        self.refuse(3, "a: [1 2 3]\na: [1 2 3]", "a: [1 2 3]\nb: [1 2 3]\na: (1 2 3)")
        self.refuse(0, "a:\na:", "a:\nb:\nb: ")

    def test_another_number_of_pieces(self):
        for n in (0, 1, 3, 39, 40):
            for m in {0, 1, 2, 3, 4, 39, 40} - {n}:
                text = write_body(body_of(m, ()))
                self.refuse(n, f"a: {text}", f"a:{text}", f"b: {write_body(body_of(n, ()))}\na: {text}")
        self.refuse(40, "a: [" + " ".join([str(x) for x in range(1, 42)]) + "]")

    def test_bad_bodies(self):
        for bad in (
            "[1 2 2]", "[1 2 4]", "[0 1 2]", "[1 2 3", "1 2 3]", "1 2 3", "[1 2 3)", "[[1 2 3]]", "[1 2] [] (3)", "x",
            "[1 2 03]", "[1 2 +03]", "[1 2 - 3]", "[1 2 3] x", "[1,2,3]", "[+ 1 2 3]", "[1 2 +]",
            "[1 2 " + "3" * 300 + "]",
        ):
            self.refuse(3, f"a: {bad}", f"a:{bad}", f"b: [1 2 3]\na: {bad}", f"a: {bad}\nb: [1 2 3]")
        self.refuse(0, "a: []", "a: x", "a: 1", "a: [1]", "a: 0")

    def test_thirty_one_lines(self):
        for many in (31, 32, 100):
            self.refuse(3, "\n".join([f"n{at}: [1 2 3]" for at in range(many)]))
            self.refuse(0, "\n".join([f"n{at}:" for at in range(many)]))
            self.refuse(3, "\n".join(["a: [1 2 3]"] * many))
        self.assertEqual(len(read_book(3, "\n".join([f"n{at}: [1 2 3]" for at in range(30)])).names()), 30)
        self.refuse(3, "\n".join([f"n{at}: [1 2 3]" for at in range(30)]) + "\n")
        self.refuse(3, "\n" * 10 ** 5, ":" * 10 ** 5, "a" * 10 ** 5, "a:\n" * 33333)

    def test_numbers_of_pieces(self):
        for n in (-1, -2, 41, 42, 100, HUGE, -HUGE):
            for text in ("", "a:", "x", "a: [1]", "\n"):
                with self.assertRaises(OutOfRange):
                    read_book(n, text)


if __name__ == "__main__":
    unittest.main()
