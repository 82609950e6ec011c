"""The head of the interface, and points 0.2 and 0.3: what holds for every module."""

import ast
import copy
import importlib
import inspect
import pathlib
import unittest

from tests import helpers, kin, strands
from turnedrows import (
    besttree, blocks, bodies, book, booktext, closed, cuts, drawing, families, fewest, flips, hurdles, middles, moves,
    nexts, numbering, papers, parts, recuts, roads, rows, scripts, signed, singles, spheres, swaps, takes, text,
    together, turns,
)
from turnedrows.errors import InvalidBody, InvalidRow

FOLDER = pathlib.Path(__file__).resolve().parent.parent / "turnedrows"

FUNCTIONS = {
    "rows": {
        "check_row": ["row"], "sorted_row": ["n"], "relative_row": ["first", "second"], "rings": ["row"],
        "block_rings": ["row"],
    },
    "moves": {"do_move": ["row", "move"], "do_script": ["row", "moves"]},
    "swaps": {
        "least_swaps": ["first", "second"], "swap_script": ["first", "second"], "swap_ways": ["first", "second"],
    },
    "nexts": {
        "least_nexts": ["first", "second"], "next_script": ["first", "second"], "next_ways": ["first", "second"],
    },
    "takes": {
        "rising": ["row"], "falls": ["row"], "least_takes": ["first", "second"], "take_script": ["first", "second"],
    },
    "blocks": {"least_blocks": ["first", "second"], "block_script": ["first", "second"]},
    "spheres": {"how_many": ["kind", "n", "d"]},
    "numbering": {"row_number": ["row"], "row_at": ["n", "number"]},
    "signed": {
        "check_signed": ["row"], "do_turn": ["row", "move"], "do_turns": ["row", "moves"],
        "relative_signed": ["first", "second"], "breaks": ["row"],
    },
    "drawing": {"marks": ["row"], "light_lines": ["row"], "drawing_rings": ["row"]},
    "parts": {"is_oriented": ["line"], "crosses": ["line", "other"], "parts": ["row"], "bad_parts": ["row"]},
    "hurdles": {"hurdles": ["row"], "great_hurdles": ["row"], "is_fortress": ["row"]},
    "turns": {"least_turns": ["first", "second"], "turn_script": ["first", "second"]},
    "flips": {"least_flips": ["first", "second"], "flip_script": ["first", "second"]},
    "closed": {
        "opened": ["row"], "is_same_closed": ["first", "second"], "least_closed_turns": ["first", "second"],
        "closed_turn_script": ["first", "second"],
    },
    "together": {"common_stretches": ["first", "second"]},
    "bodies": {"body_of": ["n", "joints"]},
    "cuts": {"do_cut": ["body", "move"], "do_cuts": ["body", "moves"]},
    "recuts": {
        "web": ["first", "second"], "least_recuts": ["first", "second"], "recut_script": ["first", "second"],
        "recut_ways": ["first", "second"],
    },
    "singles": {
        "least_singles": ["first", "second"], "single_script": ["first", "second"], "single_ways": ["first", "second"],
    },
    "middles": {"cost": ["body", "bodies"], "middle": ["bodies"]},
    "families": {
        "check_tree": ["tree", "k"], "ancestors": ["tree", "bodies"], "tree_cost": ["labeled", "bodies"],
    },
    "besttree": {"trees": ["k"], "best_tree": ["bodies"]},
    "papers": {"paper": ["kind", "first", "second"], "shown": ["kind", "first", "second", "paper"]},
    "fewest": {"least": ["kind", "first", "second"], "script": ["kind", "first", "second"]},
    "roads": {"stages": ["kind", "first", "second"], "is_between": ["kind", "first", "middle", "second"]},
    "text": {
        "write_row": ["row"], "write_signed": ["row"], "write_body": ["body"], "read_row": ["text"],
        "read_signed": ["text"], "read_body": ["text"],
    },
    "scripts": {
        "write_script": ["moves"], "write_tree": ["tree"], "read_script": ["text"], "read_tree": ["text", "k"],
    },
    "booktext": {"write_book": ["book"], "read_book": ["n", "text"]},
}

CLASSES = {
    "bodies": {
        "Body": {
            "__init__": ["self", "n", "strands"], "joints": ["self"], "loose": ["self"], "partner": ["self", "end"],
            "strands": ["self"],
        },
    },
    "book": {
        "Book": {
            "__init__": ["self", "n"], "put": ["self", "name", "body"], "drop": ["self", "name"],
            "move": ["self", "name", "move"], "undo": ["self"], "redo": ["self"], "forget": ["self"], "copy": ["self"],
            "names": ["self"], "body": ["self", "name"], "table": ["self", "kind"], "nearest": ["self", "name", "kind"],
        },
    },
}

ERRORS = (
    "InvalidRow", "InvalidMove", "InvalidBody", "InvalidTree", "InvalidText", "InvalidName", "UnknownName", "TooMany",
    "OutOfRange",
)

ANSWERS = ("is_oriented", "crosses", "is_fortress", "is_same_closed", "is_between")
BODIES = ("body_of", "do_cut", "do_cuts", "middle", "read_body")

IMPORTS = ("heapq", "math", "itertools", "collections")


def is_plain_value(value):
    """True for a number, a string, a body, or a tuple of these, nested in any way."""
    if type(value) is tuple:
        return all(is_plain_value(item) for item in value)
    return type(value) in (int, str, bodies.Body)


class Interface(unittest.TestCase):
    def test_each_function_is_defined_in_its_file_with_its_arguments(self):
        for module in FUNCTIONS:
            there = importlib.import_module(f"turnedrows.{module}")
            for name, arguments in FUNCTIONS[module].items():
                function = getattr(there, name)
                self.assertTrue(inspect.isfunction(function), name)
                self.assertEqual(function.__module__, f"turnedrows.{module}", name)
                self.assertEqual(list(inspect.signature(function).parameters), arguments, name)

    def test_each_class_is_defined_in_its_file_with_its_methods(self):
        for module in CLASSES:
            there = importlib.import_module(f"turnedrows.{module}")
            for name, methods in CLASSES[module].items():
                kind = getattr(there, name)
                self.assertTrue(inspect.isclass(kind), name)
                self.assertEqual(kind.__module__, f"turnedrows.{module}", name)
                for method, arguments in methods.items():
                    self.assertIn(method, vars(kind))
                    self.assertEqual(list(inspect.signature(vars(kind)[method]).parameters), arguments, method)

    def test_each_error_is_directly_under_the_base_class(self):
        there = importlib.import_module("turnedrows.errors")
        self.assertEqual(there.TurnedrowsError.__bases__, (ValueError,))
        kinds = [name for name, kind in vars(there).items() if inspect.isclass(kind)]
        self.assertEqual(sorted(kinds), sorted([*ERRORS, "TurnedrowsError"]))
        for name in ERRORS:
            self.assertEqual(getattr(there, name).__bases__, (there.TurnedrowsError,))
            self.assertEqual(getattr(there, name).__module__, "turnedrows.errors")

    def test_every_raised_error_is_one_of_them(self):
        raised = set()
        for path in FOLDER.glob("*.py"):
            for node in ast.walk(ast.parse(path.read_text(encoding="ascii"))):
                if isinstance(node, ast.Raise):
                    raised.add(node.exc.func.id)
        self.assertEqual(raised, set(ERRORS))

    def test_no_other_files(self):
        names = {path.stem for path in FOLDER.glob("*.py")}
        self.assertEqual(names, {*FUNCTIONS, *CLASSES, "errors", "__init__"})

    def test_no_clock_no_random_numbers_no_files(self):
        for path in FOLDER.iterdir():
            if path.name == "__pycache__":
                continue
            self.assertEqual(path.suffix, ".py")
            for node in ast.walk(ast.parse(path.read_text(encoding="ascii"))):
                self.assertNotIsInstance(node, ast.Import, path.name)
                if isinstance(node, ast.ImportFrom):
                    self.assertEqual(node.level, 0)
                    self.assertTrue(node.module.startswith("turnedrows.") or node.module in IMPORTS, node.module)

    def test_strings_have_plain_characters(self):
        allowed = {chr(code) for code in range(32, 127)} - {chr(37)} | {"\n"}
        for path in FOLDER.glob("*.py"):
            for node in ast.walk(ast.parse(path.read_text(encoding="ascii"))):
                if isinstance(node, ast.Constant) and isinstance(node.value, str):
                    self.assertLessEqual(set(node.value), allowed, path.name)


class Values(unittest.TestCase):
    """All numbers are integers; rows, moves and scripts are tuples; no argument is changed."""

    def results(self):
        pair = ((3, 1, 4, 2), (2, 4, 1, 3))
        signs = ((3, -1, -4, 2), (-2, -4, 1, 3))
        script_of_turns = (("turn", 0, 2), ("turn", 3, 3))
        script = (("swap", 0, 1), ("blocks", 0, 1, 2, 4))
        two = (bodies.Body(3, (("open", (1, -2, 3)),)), bodies.Body(3, (("open", (1, 2, 3)),)))
        shelf = book.Book(3)
        shelf.put("a", two[0])
        shelf.put("b", two[1])
        return [
            (rows.check_row, pair[:1]), (rows.sorted_row, (5,)), (rows.relative_row, pair), (rows.rings, pair[:1]),
            (rows.block_rings, pair[:1]), (moves.do_move, (pair[0], script[1])), (moves.do_script, (pair[0], script)),
            (swaps.least_swaps, pair), (swaps.swap_script, pair), (swaps.swap_ways, pair),
            (nexts.least_nexts, pair), (nexts.next_script, pair), (nexts.next_ways, pair),
            (takes.rising, pair[:1]), (takes.falls, pair[:1]), (takes.least_takes, pair), (takes.take_script, pair),
            (blocks.least_blocks, pair), (blocks.block_script, pair),
            (spheres.how_many, ("take", 5, 2)), (numbering.row_number, pair[:1]), (numbering.row_at, (4, 13)),
            (signed.check_signed, signs[:1]), (signed.do_turn, (signs[0], script_of_turns[0])),
            (signed.do_turns, (signs[0], script_of_turns)), (signed.relative_signed, signs), (signed.breaks, signs[:1]),
            (drawing.marks, signs[:1]), (drawing.light_lines, signs[:1]), (drawing.drawing_rings, signs[:1]),
            (parts.is_oriented, ((1, 4),)), (parts.crosses, ((1, 4), (2, 6))), (parts.parts, pair[:1]),
            (parts.bad_parts, pair[:1]), (hurdles.hurdles, pair[:1]), (hurdles.great_hurdles, pair[:1]),
            (hurdles.is_fortress, pair[:1]), (turns.least_turns, signs), (turns.turn_script, signs),
            (flips.least_flips, pair), (flips.flip_script, pair),
            (closed.opened, signs[:1]), (closed.is_same_closed, signs), (closed.least_closed_turns, signs),
            (closed.closed_turn_script, signs), (together.common_stretches, pair),
            (bodies.body_of, (3, [(1, 2), (6, 3)])), (cuts.do_cut, (two[0], ("cut", 2, 4))),
            (cuts.do_cuts, (two[0], (("cut", 2, 4), ("join", 1, 2)))),
            (recuts.web, two), (recuts.least_recuts, two), (recuts.recut_script, two), (recuts.recut_ways, two),
            (singles.least_singles, two), (singles.single_script, two), (singles.single_ways, two),
            (middles.cost, (two[0], two)), (middles.middle, (two,)), (families.check_tree, ((1, 0), 2)),
            (families.ancestors, ((1, 0), two)), (families.tree_cost, ((two[0], 1, 0), two)), (besttree.trees, (4,)),
            (besttree.best_tree, (two,)), (papers.paper, ("blocks", *pair)),
            (papers.shown, ("next", *pair, ("pairs", ((0, 1),)))),
            (fewest.least, ("flip", *pair)), (fewest.script, ("single", *two)), (roads.stages, ("turn", *signs)),
            (roads.is_between, ("blocks", pair[0], pair[0], pair[1])), (text.write_row, pair[:1]),
            (text.write_signed, signs[:1]), (text.write_body, two[:1]), (text.read_row, ("2 1 3",)),
            (text.read_signed, ("2 -1 +3",)), (text.read_body, ("[2 -1](3)",)), (scripts.write_script, (script,)),
            (scripts.write_tree, (((1, 0), 2),)), (scripts.read_script, ("swap 0 1; cut 2 3",)),
            (scripts.read_tree, ("((1 0) 2)", 3)), (booktext.write_book, (shelf,)),
            (booktext.read_book, (3, "a: [1 2 3]\nb: (1 2)[3]")),
        ]

    def test_values_are_tuples_and_integers(self):
        for function, arguments in self.results():
            if function.__name__ in ANSWERS:
                self.assertIs(type(function(*arguments)), bool, function.__name__)
            elif function.__name__ in BODIES:
                self.assertIs(type(function(*arguments)), bodies.Body, function.__name__)
            elif function.__name__ == "read_book":
                self.assertIs(type(function(*arguments)), book.Book)
            else:
                self.assertTrue(is_plain_value(function(*arguments)), function.__name__)

    def plain(self, value):
        """The value itself, or what a book holds."""
        if type(value) is book.Book:
            return value.n, booktext.write_book(value)
        return tuple([self.plain(item) for item in value]) if type(value) is tuple else value

    def test_arguments_stay_and_results_come_again(self):
        for function, arguments in self.results():
            before = copy.deepcopy(self.plain(arguments))
            result = function(*arguments)
            self.assertEqual(self.plain(arguments), before)
            self.assertEqual(self.plain(function(*arguments)), self.plain(result))

    def test_each_function_is_called_here(self):
        called = [function.__name__ for function, _ in self.results()]
        self.assertEqual(sorted(called), sorted([name for module in FUNCTIONS.values() for name in module]))

    def test_attributes_are_set_when_the_object_is_created(self):
        self.assertEqual(bodies.Body(2, (("open", (1, 2)),)).n, 2)
        self.assertEqual(book.Book(2).n, 2)

    def test_later_changes_of_a_list_change_nothing(self):
        joints = [(1, 2), (3, 6)]
        body = bodies.body_of(3, joints)
        shelf = book.Book(3)
        shelf.put("a", body)
        joints.clear()
        self.assertEqual(shelf.body("a").joints(), ((1, 2), (3, 6)))


PLAIN_PAIRS = (
    rows.relative_row, swaps.least_swaps, swaps.swap_script, swaps.swap_ways, nexts.least_nexts, nexts.next_script,
    nexts.next_ways, takes.least_takes, takes.take_script, blocks.least_blocks, blocks.block_script,
    flips.least_flips, flips.flip_script,
)
SIGNED_PAIRS = (
    signed.relative_signed, turns.least_turns, turns.turn_script, closed.is_same_closed, closed.least_closed_turns,
    closed.closed_turn_script, together.common_stretches,
)
BODY_PAIRS = (
    recuts.web, recuts.least_recuts, recuts.recut_script, recuts.recut_ways, singles.least_singles,
    singles.single_script, singles.single_ways,
)
PLAIN_ROWS = (
    rows.check_row, rows.rings, rows.block_rings, takes.rising, takes.falls, numbering.row_number, text.write_row,
)
SIGNED_ROWS = (
    signed.check_signed, signed.breaks, drawing.marks, drawing.light_lines, drawing.drawing_rings, parts.parts,
    parts.bad_parts, hurdles.hurdles, hurdles.great_hurdles, hurdles.is_fortress, closed.opened, text.write_signed,
)
WITH_MOVES = ((moves.do_move, moves.do_script, helpers.BAD_ROWS), (signed.do_turn, signed.do_turns, helpers.BAD_SIGNED))


class Refusals(unittest.TestCase):
    """Each function that gets rows or bodies refuses bad ones ahead of any other error."""

    def test_pairs(self):
        for function in PLAIN_PAIRS:
            helpers.check_refuses_rows(self, InvalidRow, function)
        for function in SIGNED_PAIRS:
            helpers.check_refuses_signed(self, InvalidRow, function)
        for function in BODY_PAIRS:
            strands.check_refuses_pieces(self, InvalidBody, function)

    def test_single_rows(self):
        for functions, bad_ones in ((PLAIN_ROWS, helpers.BAD_ROWS), (SIGNED_ROWS, helpers.BAD_SIGNED)):
            for function in functions:
                for bad in bad_ones:
                    with self.assertRaises(InvalidRow, msg=function):
                        function(bad)

    def test_bad_rows_ahead_of_bad_moves(self):
        for do_one, do_several, bad_ones in WITH_MOVES:
            for bad in bad_ones:
                for move in (("swap", 0, 1), ("turn", 0, 0), ("swap", -1, 99), ("",), ()):
                    with self.assertRaises(InvalidRow):
                        do_one(bad, move)
                    with self.assertRaises(InvalidRow):
                        do_several(bad, (move,))
                with self.assertRaises(InvalidRow):
                    do_several(bad, ())

    def test_several_bodies(self):
        for k in range(2, 7):
            tree = kin.leaning(range(k))
            for several in kin.differing(k):
                for act in (
                    lambda: middles.middle(several), lambda: middles.cost(several[0], several),
                    lambda: families.ancestors(tree, several), lambda: besttree.best_tree(several),
                ):
                    with self.assertRaises(InvalidBody):
                        act()

    def test_each_function_of_two_rows_or_bodies_is_here(self):
        names = {function.__name__ for function in PLAIN_PAIRS + SIGNED_PAIRS + BODY_PAIRS}
        pairs = {name for module in FUNCTIONS.values() for name in module if module[name] == ["first", "second"]}
        self.assertEqual(names, pairs)
        names = {function.__name__ for function in PLAIN_ROWS + SIGNED_ROWS}
        self.assertEqual(names, {name for module in FUNCTIONS.values() for name in module if module[name] == ["row"]})


if __name__ == "__main__":
    unittest.main()
