"""text.py: points 6.1 and 6.2."""

import itertools
import random
import re
import unittest

from tests import helpers, kin, strands
from tests.helpers import BAD_ROWS, BAD_SIGNED, FORTY, NEGATIVE
from turnedrows.bodies import Body, body_of
from turnedrows.errors import InvalidBody, InvalidRow, InvalidText
from turnedrows.rows import check_row
from turnedrows.signed import check_signed
from turnedrows.text import read_body, read_row, read_signed, write_body, write_row, write_signed

READERS = (read_row, read_signed, read_body)

PLAIN_NUMBER = "[1-9][0-9]*"
SIGNED_NUMBER = "[+-]?[1-9][0-9]*"
PLAIN_NUMBERS = re.compile(f"({PLAIN_NUMBER}([ \n]+{PLAIN_NUMBER})*)?")
SIGNED_NUMBERS = re.compile(f"({SIGNED_NUMBER}([ \n]+{SIGNED_NUMBER})*)?")
STRAND = re.compile(r"[ \n]*([\[(])([^\[\]()]*)([\])])[ \n]*")

ALPHABET = "0123456789+-[]() \n,x:"


def says_row(text):
    """What the text says as a plain row, by the words of point 6.2, or None."""
    if PLAIN_NUMBERS.fullmatch(text.strip(" \n")) is None:
        return None
    row = tuple([int(number) for number in re.findall(PLAIN_NUMBER, text)])
    try:
        return check_row(row)
    except InvalidRow:
        return None


def says_signed(text):
    if SIGNED_NUMBERS.fullmatch(text.strip(" \n")) is None:
        return None
    row = tuple([int(number) for number in re.findall(SIGNED_NUMBER, text)])
    try:
        return check_signed(row)
    except InvalidRow:
        return None


def says_body(text):
    found = []
    at = 0
    while text[at:].strip(" \n"):
        strand = STRAND.match(text, at)
        if strand is None or strand[1] + strand[3] not in ("[]", "()"):
            return None
        inner = strand[2].strip(" \n")
        if inner == "" or SIGNED_NUMBERS.fullmatch(inner) is None:
            return None
        word = "open" if strand[1] == "[" else "closed"
        found.append((word, tuple([int(number) for number in re.findall(SIGNED_NUMBER, inner)])))
        at = strand.end()
    try:
        return Body(sum(len(pieces) for _, pieces in found), tuple(found))
    except InvalidBody:
        return None


SAYS = {read_row: says_row, read_signed: says_signed, read_body: says_body}


def gap(chance, least=0):
    return "".join(chance.choice(" \n") for _ in range(chance.randint(least, 3)))


def loose_number(number, chance):
    return ("-" if number < 0 else chance.choice(("+", ""))) + str(abs(number))


def loose_numbers(numbers, chance, write=loose_number):
    """Numbers with any spaces and newlines, and without some pluses."""
    words = []
    for at, number in enumerate(numbers):
        words.append(gap(chance, 1 if at > 0 else 0) + write(number, chance))
    return "".join(words) + gap(chance)


def loose_body(body, chance):
    """A text of a body in another order of strands, other readings, and with any spaces and newlines."""
    found = []
    for strand in chance.sample(body.strands(), len(body.strands())):
        word, pieces = chance.choice(strands.readings(strand))
        inner = loose_numbers(pieces, chance)
        found.append(f"[{inner}]" if word == "open" else f"({inner})")
    return gap(chance) + "".join(strand + gap(chance) for strand in found)


def changed(text, chance):
    """The text with a character put in, left out or replaced."""
    at = chance.randint(0, len(text))
    more = chance.choice((0, 1))
    return text[:at] + chance.choice(("", *ALPHABET)) + text[at + more:]


class Written(unittest.TestCase):
    def test_rows(self):
        for row, text in (((), ""), ((1,), "1"), ((3, 1, 2), "3 1 2"), ((2, 1), "2 1")):
            self.assertEqual(write_row(row), text)
        self.assertEqual(write_row(FORTY), " ".join([str(x) for x in range(1, 41)]))
        self.assertEqual(write_row(FORTY[::-1])[:11], "40 39 38 37")

    def test_signed_rows(self):
        for row, text in (((), ""), ((1,), "+1"), ((-1,), "-1"), ((3, -1, 2), "+3 -1 +2"), ((-2, -1), "-2 -1")):
            self.assertEqual(write_signed(row), text)
        self.assertEqual(write_signed(FORTY), " ".join([f"+{x}" for x in range(1, 41)]))
        self.assertEqual(write_signed(NEGATIVE), " ".join([f"-{x}" for x in range(1, 41)]))

    def test_bodies(self):
        for read, text in (
            ((), ""), ((("open", (1,)),), "[+1]"), ((("open", (-1,)),), "[+1]"), ((("closed", (-1,)),), "(+1)"),
            ((("closed", (3,)), ("open", (2, -1))), "[+1 -2] (+3)"),
            ((("open", (5, 2)), ("closed", (4, -1, 3))), "(+1 -4 -3) [-2 -5]"),
            ((("closed", (2, 4)), ("closed", (1,)), ("open", (5, -3))), "(+1) (+2 +4) [+3 -5]"),
        ):
            self.assertEqual(write_body(Body(sum(len(strand[1]) for strand in read), read)), text)
        self.assertEqual(write_body(Body(40, (("open", FORTY),))), "[" + write_signed(FORTY) + "]")
        self.assertEqual(write_body(Body(40, (("closed", FORTY),))), "(" + write_signed(FORTY) + ")")
        self.assertEqual(write_body(body_of(40, ())), " ".join([f"[+{x}]" for x in FORTY]))

    def test_of_the_normal_form(self):
        for body in strands.some_bodies():
            words = []
            for word, pieces in body.strands():
                inner = " ".join([f"+{x}" if x > 0 else str(x) for x in pieces])
                words.append("[" + inner + "]" if word == "open" else "(" + inner + ")")
            self.assertEqual(write_body(body), " ".join(words))

    def test_bad_rows(self):
        for bad in BAD_ROWS:
            with self.assertRaises(InvalidRow):
                write_row(bad)
        for bad in BAD_SIGNED:
            with self.assertRaises(InvalidRow):
                write_signed(bad)


class ReadBack(unittest.TestCase):
    def test_rows(self):
        for n in range(5):
            for row in helpers.plain_rows(n):
                self.assertEqual(read_row(write_row(row)), row)
        for n in (8, 39, 40):
            for row in helpers.some_rows(n, 10):
                self.assertEqual(read_row(write_row(row)), row)

    def test_signed_rows(self):
        for n in range(4):
            for row in helpers.signed_rows(n):
                self.assertEqual(read_signed(write_signed(row)), row)
        for n in (8, 39, 40):
            for row in helpers.some_signed(n, 10):
                self.assertEqual(read_signed(write_signed(row)), row)
                self.assertEqual(read_signed(write_signed(row).replace("+", "")), row)

    def test_bodies(self):
        for body in [body for n in range(4) for body in kin.all_bodies(n)] + strands.some_bodies():
            found = read_body(write_body(body))
            self.assertIs(type(found), Body)
            self.assertEqual(found.n, body.n)
            self.assertEqual(found, body)

    def test_nothing(self):
        for text in ("", " ", "\n", "  \n \n\n  ", " " * 1000, "\n" * 1000):
            self.assertEqual(read_row(text), ())
            self.assertEqual(read_signed(text), ())
            self.assertEqual(read_body(text).n, 0)
            self.assertEqual(read_body(text), body_of(0, ()))

    def test_spaces_newlines_and_pluses(self):
        self.assertEqual(read_row("\n3  1\n\n2 "), (3, 1, 2))
        self.assertEqual(read_signed(" 3\n-1   +2\n"), (3, -1, 2))
        self.assertEqual(read_body("[ 1\n-2 ]"), Body(2, (("open", (1, -2)),)))
        self.assertEqual(read_body("(3)[-2 1]\n(+4)"), Body(4, (("open", (-1, 2)), ("closed", (3,)), ("closed", (4,)))))
        self.assertEqual(read_body("[1](2)[3]"), Body(3, (("open", (1,)), ("closed", (2,)), ("open", (3,)))))
        chance = random.Random("loose")
        for n in (0, 1, 2, 5, 13, 40):
            for row in helpers.some_rows(n, 10):
                text = loose_numbers(row, chance, lambda number, chance: str(number))
                self.assertEqual(read_row(text), row)
            for row in helpers.some_signed(n, 10):
                self.assertEqual(read_signed(loose_numbers(row, chance)), row)
        for body in strands.some_bodies(8):
            self.assertEqual(read_body(loose_body(body, chance)), body)


class Refused(unittest.TestCase):
    def refuse(self, readers, *texts):
        for reader, text in itertools.product(readers, texts):
            with self.assertRaises(InvalidText, msg=(reader, text)):
                reader(text)

    def test_numbers(self):
        bad = (
            "01", "1 02", "00", "0", "1 0", "1 x", "x", "1,2", "1.", "1:", "one", "1 2 4", "1 1", "2", "1 2 2", "2 3",
            "1 3", "1;2", "1_0", "1 2a", "1e0", "0x1", "2 1-", "1+2", "1-2", "1 -", "+ 1", "- 1", "1 2 -", "+", "-",
            "1\t2", "1\r\n2", "1 2\x00", "\u0661", "1 \u00b2", "1 \uff12", "\u00a01", "\x0b1", "1\x0c2", "1\u20282",
            "1" * 300, "9" * 300, "1 " + "2" * 300, "2" + "0" * 299, "0" * 300, "0" * 299 + "1", "1" * 1000,
            "%", "1 %", "'1'", "(1", "1)", "[1", "1]", "{1}", "<1>", "1 /2", "1*2", "--1", "++1", "+-1", "-+1", "1 ~2",
        )
        self.refuse((read_row, read_signed), *bad)
        self.refuse((read_body,), *[f"[{text}]" for text in bad], *[f"({text})" for text in bad])
        self.refuse((read_body,), *[f"[1] (2 {text})" for text in bad], *[text for text in bad])

    def test_signs_in_a_plain_row(self):
        self.refuse((read_row,), "+1", "-1", "1 +2", "1 -2", "+1 +2", "2 +1", "+0", "+ 1", "1 + 2", "+")

    def test_signs_in_a_signed_row(self):
        bad = (
            "+01", "-01", "1 +02", "-00", "+0", "-0", "1 -0", "+ 1", "- 1", "-\n1", "1 + 2", "1 - 2", "+", "-", "1 +",
            "1 2 -", "++1", "--1", "+-1", "-+1", "1+", "1-", "1+2", "+1-2", "+1+2", "1 2+", "+1 -1", "1 -1", "-1 -1",
            "1 -3", "-2", "+" + "1" * 300, "-" + "9" * 300, "1 -" + "2" * 300, "+x", "-x", "+ +1", "1 -2 - 3",
        )
        self.refuse((read_signed,), *bad)
        self.refuse((read_body,), *[f"[{text}]" for text in bad], *[f"({text})" for text in bad])

    def test_pieces(self):
        for many in (FORTY + (41,), FORTY[:39] + (41,), FORTY[1:], FORTY[:39] + (39,), FORTY + (40,), FORTY + (1,)):
            text = " ".join([str(x) for x in many])
            self.refuse((read_row, read_signed), text)
            self.refuse((read_body,), f"[{text}]", f"({text})", " ".join([f"[{x}]" for x in many]), text)
        self.refuse((read_body,), "[1] [1]", "[1] (1)", "[1] [-1]", "[1 1]", "(1 -1)", "[2]", "(1 3)", "[1] [3]", "(0)")

    def test_brackets(self):
        self.refuse(
            (read_body,), "1", "+1", "1 2", "[", "]", "(", ")", "[]", "()", "[ ]", "(\n)", "[1", "1]", "(1", "1)",
            "[1)", "(1]", "[[1]]", "((1))", "[(1)]", "([1])", "[1 [2]]", "[1 (2)]", "(1 (2))", "(1 [2] 3)",
            "[1] 2", "1 [2]",
            "[1] [", "[1] ]", "[1]]", "[[1]", "(1))", "((1)", "[1] ()", "[] [1]", "[1] [] [2]", "()(1)", "][", ")(",
            "[1] 2 [3]", "[1 2) (3]", "[1 (2] 3)", "[1] + [2]", "[1] - (2)", "[1], [2]", "{1}", "[1}", "<1>", "[+]",
            "(-)", "[+ 1]", "[1] (2", "(1] [2)", "[1] 2)", "[1](2", "[1][2", "1](2)", "[" * 500 + "]" * 500, "[" * 1000,
            "()" * 500, "[1" * 300, "[1 2]\n3", "3\n[1 2]",
        )
        self.refuse((read_row, read_signed), "[1]", "(1)", "[1 2]", "[]", "()", "[", ")", "1 [2]", "(1 2")

    def test_changed_texts(self):
        """Texts with a few characters put in, left out or replaced, against the words of the document."""
        chance = random.Random("changed")
        read = {reader: 0 for reader in READERS}
        refused = {reader: 0 for reader in READERS}
        for _ in range(8000):
            n = chance.choice((0, 1, 2, 3, 4, 9, 12))
            row = helpers.some_rows(n, 1, chance.randrange(50))[0]
            signed = helpers.some_signed(n, 1, chance.randrange(50))[0]
            body = Body(n, strands.some_strands(n, chance.randrange(50)))
            texts = {
                read_row: write_row(row), read_signed: chance.choice((write_signed(signed), write_row(row))),
                read_body: chance.choice((write_body(body), loose_body(body, chance))),
            }
            for reader, text in texts.items():
                for _ in range(chance.randint(1, 3)):
                    text = changed(text, chance)
                wanted = SAYS[reader](text)
                if wanted is None:
                    refused[reader] += 1
                    with self.assertRaises(InvalidText, msg=(reader, text)):
                        reader(text)
                else:
                    read[reader] += 1
                    self.assertEqual(reader(text), wanted, (reader, text))
        self.assertGreater(min(*read.values(), *refused.values()), 200)


if __name__ == "__main__":
    unittest.main()
