"""scripts.py: point 6.3."""

import itertools
import random
import re
import unittest

from tests import helpers, kin, strands
from tests.helpers import FORTY, NEGATIVE
from turnedrows.cuts import do_cuts
from turnedrows.errors import InvalidText
from turnedrows.fewest import script
from turnedrows.moves import do_script
from turnedrows.scripts import read_script, read_tree, write_script, write_tree
from turnedrows.signed import do_turns

NUMBERS = {"swap": 2, "next": 1, "take": 2, "flip": 2, "blocks": 4, "turn": 2, "recut": 4, "cut": 2, "join": 2}
NUMBER = "(0|[1-9][0-9]*)"
MOVE = "(" + "|".join([word + f" {NUMBER}" * many for word, many in NUMBERS.items()]) + ")"
SCRIPT = re.compile(f"({MOVE}(; {MOVE})*)?")


def drawn_script(chance, most=5):
    moves = []
    for _ in range(chance.randint(0, most)):
        word = chance.choice(sorted(NUMBERS))
        numbers = [chance.choice((0, 1, 2, 9, 10, 39, 80, 100, 10 ** 30)) for _ in range(NUMBERS[word])]
        moves.append((word, *numbers))
    return tuple(moves)


def changed(text, chance, alphabet):
    """The text with a character put in, left out or replaced."""
    at = chance.randint(0, len(text))
    return text[:at] + chance.choice(("", *alphabet)) + text[at + chance.choice((0, 1)):]


class Scripts(unittest.TestCase):
    def refuse(self, *texts):
        for text in texts:
            with self.assertRaises(InvalidText, msg=text):
                read_script(text)

    def test_examples(self):
        for moves, text in (
            ((), ""), ((("swap", 0, 1),), "swap 0 1"), ((("next", 12),), "next 12"), ((("take", 3, 0),), "take 3 0"),
            ((("flip", 0, 39),), "flip 0 39"), ((("blocks", 0, 1, 1, 10),), "blocks 0 1 1 10"),
            ((("turn", 0, 0),), "turn 0 0"), ((("recut", 2, 0, 79, 80),), "recut 2 0 79 80"),
            ((("cut", 2, 3),), "cut 2 3"), ((("join", 1, 80),), "join 1 80"),
            ((("cut", 2, 3), ("join", 1, 2)), "cut 2 3; join 1 2"),
            ((("swap", 0, 1), ("turn", 2, 2), ("next", 0), ("recut", 0, 0, 1, 2)),
             "swap 0 1; turn 2 2; next 0; recut 0 0 1 2"),
        ):
            self.assertEqual(write_script(moves), text)
            found = read_script(text)
            self.assertIs(type(found), tuple)
            self.assertEqual({type(move) for move in found} | {tuple}, {tuple})
            self.assertEqual(found, moves)

    def test_scripts_of_all_kinds_read_back(self):
        for kind in ("swap", "next", "take", "blocks"):
            first, second = FORTY, helpers.some_rows(40, 1)[0]
            moves = read_script(write_script(script(kind, first, second)))
            self.assertEqual(do_script(first, moves), second)
        moves = read_script(write_script(script("flip", (3, 1, 5, 2, 4), (1, 2, 3, 4, 5))))
        self.assertEqual(do_script((3, 1, 5, 2, 4), moves), (1, 2, 3, 4, 5))
        moves = read_script(write_script(script("turn", FORTY[:10], NEGATIVE[:10])))
        self.assertEqual(do_turns(FORTY[:10], moves), NEGATIVE[:10])
        for kind in ("recut", "single"):
            for first, second in strands.long_pairs():
                moves = script(kind, first, second)
                self.assertEqual(read_script(write_script(moves)), moves)
                self.assertEqual(do_cuts(first, read_script(write_script(moves))), second)

    def test_drawn_scripts_read_back(self):
        chance = random.Random("scripts")
        for _ in range(500):
            moves = drawn_script(chance)
            text = write_script(moves)
            self.assertEqual(text, "; ".join([" ".join(map(str, move)) for move in moves]))
            self.assertEqual(read_script(text), moves)

    def test_moves_that_cannot_be_done(self):
        for text, moves in (
            ("swap 1 0", (("swap", 1, 0),)), ("next 999999", (("next", 999999),)), ("cut 0 0", (("cut", 0, 0),)),
            ("recut 0 0 0 0", (("recut", 0, 0, 0, 0),)), ("turn 5 2; take 1 1", (("turn", 5, 2), ("take", 1, 1))),
            ("next " + "9" * 300, (("next", int("9" * 300)),)),
        ):
            self.assertEqual(read_script(text), moves)
            self.assertEqual(write_script(moves), text)

    def test_what_is_no_written_form(self):
        self.refuse(
            " ", ";", "; ", " ;", "\n", "swap", "0", "0 1", "swap 0", "swap 0 1 2", "next", "next 0 1", "take 0",
            "blocks 0 1 2", "blocks 0 1 2 3 4", "flip 1", "turn 0", "turn 0 1 2", "recut 0 1 2", "recut 0 1 2 3 4",
            "cut 1", "cut 1 2 3", "join 1", "join 1 2 3", "swap  0 1", "swap 0  1", " swap 0 1", "swap 0 1 ",
            "swap 0 1;", "swap 0 1; ", "; swap 0 1", ";swap 0 1", "swap 0 1;swap 0 1", "swap 0 1 ; swap 0 1",
            "swap 0 1;  swap 0 1", "swap 0 1;; swap 0 1", "swap 0 1; ; swap 0 1", "swap 0 1 swap 0 1",
            "swap 0 1, swap 0 1", "swap 00 1", "swap 0 01", "swap 0 1; swap 01 2", "next 00", "swap +0 1", "swap 0 +1",
            "swap -0 1", "swap 0 -1", "swap - 1", "swap 0 1\n", "\nswap 0 1", "swap 0\n1", "swap\n0 1",
            "swap 0 1;\nswap 0 1", "swap 0 1\nswap 0 1", "Swap 0 1", "SWAP 0 1", "swaps 0 1", "swa 0 1", "single 1 2",
            "closed 0 1", "turned 0 1", "block 0 1 2 3", "open 0 1", "move 0 1", "(swap 0 1)", "('swap', 0, 1)",
            "swap(0,1)", "swap 0,1", "swap 0 x", "swap 0 1x", "swap x 1", "swap 0 1.", "swap 0 1.0", "swap 0 1e1",
            "swap 0 1_0", "swap 0x1 1", "swap 0 \u0661", "swap 0 \u00b2", "swap\t0 1", "swap 0\t1", "swap\u00a00 1",
            "next " + "0" * 300, "next " + "0" + "9" * 299, "next -" + "9" * 299, "next 1 " + "9" * 300, "swap 0 1\r",
        )

    def test_changed_texts(self):
        chance = random.Random("changed scripts")
        read = 0
        for _ in range(20000):
            text = write_script(drawn_script(chance, 3))
            for _ in range(chance.randint(1, 2)):
                text = changed(text, chance, "0123456789; \n+-swapnextcut")
            if SCRIPT.fullmatch(text) is None:
                self.refuse(text)
            else:
                read += 1
                self.assertEqual(write_script(read_script(text)), text)
        self.assertGreater(read, 1000)


class Trees(unittest.TestCase):
    def refuse(self, k, *texts):
        for text in texts:
            with self.assertRaises(InvalidText, msg=text):
                read_tree(text, k)

    def test_examples(self):
        for tree, k, text in (
            ((0, 1), 2, "(0 1)"), ((1, 0), 2, "(1 0)"), (((0, 2), 1), 3, "((0 2) 1)"), ((0, (1, 2)), 3, "(0 (1 2))"),
            (((3, 1), (0, 2)), 4, "((3 1) (0 2))"), ((8, ((0, 1), (2, (3, ((4, 5), (6, 7)))))), 9,
             "(8 ((0 1) (2 (3 ((4 5) (6 7))))))"),
        ):
            self.assertEqual(write_tree(tree), text)
            self.assertEqual(read_tree(text, k), tree)

    def test_an_index_is_written_by_its_digits(self):
        # A subtree is an index or a pair.
        for index in range(9):
            self.assertEqual(write_tree(index), str(index))

    def test_trees_read_back(self):
        for k in range(2, 10):
            for tree in kin.some_trees(k, 60):
                self.assertEqual(read_tree(write_tree(tree), k), tree)
        for k in (2, 3, 4):
            for tree in kin.all_trees(tuple(range(k))):
                self.assertEqual(read_tree(write_tree(tree), k), tree)

    def test_other_numbers_of_bodies(self):
        for k in range(2, 10):
            for tree in kin.some_trees(k, 2):
                self.refuse(k - 1, write_tree(tree))
                self.refuse(k + 1, write_tree(tree))
        for k in (1, 0, -1, -2, 10, 11, 12, 100, helpers.HUGE, -helpers.HUGE):
            self.refuse(k, "", "0", "1", "()", "(0)", "(0 1)", "((0 1) 2)", write_tree(kin.leaning(range(9))))
            if 9 < k < 101:
                self.refuse(k, write_tree(kin.leaning(range(k))))

    def test_what_is_no_written_form(self):
        self.refuse(
            2, "", " ", "0", "1", "01", "0 1", "(0 1", "0 1)", "((0 1)", "(0 1))", "((0 1))", "()", "(0)", "(0 )",
            "( 0)", "(01)", "( 0 1)", "(0 1 )", "(0  1)", " (0 1)", "(0 1) ", "(0 1)\n", "\n(0 1)", "(0\n1)", "(0,1)",
            "(0, 1)", "[0 1]", "(0 1]", "(00 1)", "(0 01)", "(+0 1)", "(0 +1)", "(-0 1)", "(0 -1)", "(0 0)", "(1 1)",
            "(0 2)", "(1 2)", "(0 9)", "(0 10)", "(0 1 1)", "(0 1 2)", "((0 1) 2)", "(0 (1 2))", "(0 1)(0 1)",
            "(0 1) (0 1)", "(0 1)0", "0(0 1)", "(0 x)", "(x 1)", "(a b)", "(() 1)", "(0 ())", "(() ())", ")(", ")0 1(",
            "(0 \u0661)", "(\u00b2 1)", "(0\t1)", "(0 " + "1" * 300 + ")", "(0 " + "0" * 299 + "1)",
            "(" * 100, ")" * 100, "(" * 100 + "0 1" + ")" * 100, "(" * 100 + ")" * 100, "(0 " * 100,
            "(0 " * 99 + "(0 1)",
            "(0 " * 100 + "1" + ")" * 100, "(" * 100 + "0" + " 1)" * 100, "0 1" + ")" * 300, "(0 1 0)",
            "0" * 400 + ")" * 400, "((((0 1)))", "(0 1)))", "0 1) 1)", "01)", "(01)", "10)", "( 01)", "0(1 )", "( )01",
        )
        self.refuse(
            3, "(0 1 2)", "((0 1) 2", "(0 1) 2)", "((0 1)2)", "((0 1)  2)", "( (0 1) 2)", "((0 1) 2 )", "((0 1 ) 2)",
            "(( 0 1) 2)", "((0 1) 1)", "((0 1) 0)", "((0 2) 2)", "((0 1) 3)", "((1 2) 3)", "(0 (1 2)", "(0 (1 2)))",
            "((0 1) (2))", "((0 1) ())", "(((0 1) 2))", "(0 (1 2)) ", "(0 1)", "((0 1) (2 0))", "((0 1) -2)",
            "(0 1) (2 0)", "(0 1)(1 2)", "((0) (1 2))", "((0 1) (2 3))", "012))", "((012))", "0 1) 2)", "((0 1 2)",
        )
        for k in range(2, 10):
            for many in (1, k - 1, k, 50, 100):
                self.refuse(k, "(" * many, "(0 " * many, "(" * many + "0", ")" * many, "(" * many + ")" * many,
                            "0 " * many, "(0 " * many + "1" + ")" * many + " ", "(" * many + "0 1" + ")" * (many + 1))

    def test_cut_off_and_going_on(self):
        for k in range(2, 10):
            for tree in kin.some_trees(k, 3):
                text = write_tree(tree)
                for at in range(len(text)):
                    self.refuse(k, text[:at], text + text[:at + 1], text[:at] + text[at + 1:])

    def test_an_index_twice_missing_or_too_great(self):
        for k in range(2, 10):
            for tree in kin.some_trees(k, 3):
                text = write_tree(tree)
                for one, other in itertools.permutations(range(10), 2):
                    if one < k:
                        self.refuse(k, text.replace(str(one), str(other)))
                    if other < k <= one:
                        self.refuse(k, text.replace(str(other), "10"), text.replace(str(other), f"0{other}"))

    def test_changed_texts(self):
        chance = random.Random("changed trees")
        forms = {k: {write_tree(tree) for tree in kin.all_trees(tuple(range(k)))} for k in (2, 3, 4)}
        read = 0
        for _ in range(20000):
            k = chance.choice((2, 3, 4))
            text = chance.choice(sorted(forms[k]))
            for _ in range(chance.randint(1, 3)):
                text = changed(text, chance, "0123456789() ")
            if text in forms[k]:
                read += 1
                self.assertEqual(write_tree(read_tree(text, k)), text)
            else:
                self.refuse(k, text)
        self.assertGreater(read, 500)


if __name__ == "__main__":
    unittest.main()
