"""The head of the interface, and points 0.2 and 0.3: what holds for every module."""

import ast
import copy
import importlib
import inspect
import pathlib
import unittest

from turnedrows import (
    besttree, blocks, bodies, closed, cuts, drawing, families, flips, hurdles, middles, moves, nexts, numbering,
    papers, parts, recuts, rows, signed, singles, spheres, swaps, takes, together, turns,
)

FOLDER = pathlib.Path(__file__).resolve().parent.parent / "turnedrows"

FUNCTIONS = {
    "rows": {
        "check_row": ["row"], "sorted_row": ["n"], "relative_row": ["first", "second"], "rings": ["row"],
        "block_rings": ["row"],
    },
    "moves": {"do_move": ["row", "move"], "do_script": ["row", "moves"]},
    "swaps": {
        "least_swaps": ["first", "second"], "swap_script": ["first", "second"], "swap_ways": ["first", "second"],
    },
    "nexts": {
        "least_nexts": ["first", "second"], "next_script": ["first", "second"], "next_ways": ["first", "second"],
    },
    "takes": {
        "rising": ["row"], "falls": ["row"], "least_takes": ["first", "second"], "take_script": ["first", "second"],
    },
    "blocks": {"least_blocks": ["first", "second"], "block_script": ["first", "second"]},
    "spheres": {"how_many": ["kind", "n", "d"]},
    "numbering": {"row_number": ["row"], "row_at": ["n", "number"]},
    "signed": {
        "check_signed": ["row"], "do_turn": ["row", "move"], "do_turns": ["row", "moves"],
        "relative_signed": ["first", "second"], "breaks": ["row"],
    },
    "drawing": {"marks": ["row"], "light_lines": ["row"], "drawing_rings": ["row"]},
    "parts": {"is_oriented": ["line"], "crosses": ["line", "other"], "parts": ["row"], "bad_parts": ["row"]},
    "hurdles": {"hurdles": ["row"], "great_hurdles": ["row"], "is_fortress": ["row"]},
    "turns": {"least_turns": ["first", "second"], "turn_script": ["first", "second"]},
    "flips": {"least_flips": ["first", "second"], "flip_script": ["first", "second"]},
    "closed": {
        "opened": ["row"], "is_same_closed": ["first", "second"], "least_closed_turns": ["first", "second"],
        "closed_turn_script": ["first", "second"],
    },
    "together": {"common_stretches": ["first", "second"]},
    "bodies": {"body_of": ["n", "joints"]},
    "cuts": {"do_cut": ["body", "move"], "do_cuts": ["body", "moves"]},
    "recuts": {
        "web": ["first", "second"], "least_recuts": ["first", "second"], "recut_script": ["first", "second"],
        "recut_ways": ["first", "second"],
    },
    "singles": {
        "least_singles": ["first", "second"], "single_script": ["first", "second"], "single_ways": ["first", "second"],
    },
    "middles": {"cost": ["body", "bodies"], "middle": ["bodies"]},
    "families": {
        "check_tree": ["tree", "k"], "ancestors": ["tree", "bodies"], "tree_cost": ["labeled", "bodies"],
    },
    "besttree": {"trees": ["k"], "best_tree": ["bodies"]},
    "papers": {"paper": ["kind", "first", "second"], "shown": ["kind", "first", "second", "paper"]},
}

CLASSES = {
    "bodies": {
        "Body": {
            "__init__": ["self", "n", "strands"], "joints": ["self"], "loose": ["self"], "partner": ["self", "end"],
            "strands": ["self"],
        },
    },
}

ANSWERS = ("is_oriented", "crosses", "is_fortress", "is_same_closed")
BODIES = ("body_of", "do_cut", "do_cuts", "middle")

IMPORTS = ("heapq", "math", "itertools", "collections")


def is_plain_value(value):
    """True for a number, a string, a body, or a tuple of these, nested in any way."""
    if type(value) is tuple:
        return all(is_plain_value(item) for item in value)
    return type(value) in (int, str, bodies.Body)


class Interface(unittest.TestCase):
    def test_each_function_is_defined_in_its_file_with_its_arguments(self):
        for module in FUNCTIONS:
            there = importlib.import_module(f"turnedrows.{module}")
            for name, arguments in FUNCTIONS[module].items():
                function = getattr(there, name)
                self.assertTrue(inspect.isfunction(function), name)
                self.assertEqual(function.__module__, f"turnedrows.{module}", name)
                self.assertEqual(list(inspect.signature(function).parameters), arguments, name)

    def test_each_class_is_defined_in_its_file_with_its_methods(self):
        for module in CLASSES:
            there = importlib.import_module(f"turnedrows.{module}")
            for name, methods in CLASSES[module].items():
                kind = getattr(there, name)
                self.assertTrue(inspect.isclass(kind), name)
                self.assertEqual(kind.__module__, f"turnedrows.{module}", name)
                for method, arguments in methods.items():
                    self.assertIn(method, vars(kind))
                    self.assertEqual(list(inspect.signature(vars(kind)[method]).parameters), arguments, method)

    def test_no_clock_no_random_numbers_no_files(self):
        for path in FOLDER.iterdir():
            if path.name == "__pycache__":
                continue
            self.assertEqual(path.suffix, ".py")
            for node in ast.walk(ast.parse(path.read_text(encoding="ascii"))):
                self.assertNotIsInstance(node, ast.Import, path.name)
                if isinstance(node, ast.ImportFrom):
                    self.assertEqual(node.level, 0)
                    self.assertTrue(node.module.startswith("turnedrows.") or node.module in IMPORTS, node.module)

    def test_strings_have_plain_characters(self):
        allowed = {chr(code) for code in range(32, 127)} - {chr(37)} | {"\n"}
        for path in FOLDER.glob("*.py"):
            for node in ast.walk(ast.parse(path.read_text(encoding="ascii"))):
                if isinstance(node, ast.Constant) and isinstance(node.value, str):
                    self.assertLessEqual(set(node.value), allowed, path.name)


class Values(unittest.TestCase):
    """All numbers are integers; rows, moves and scripts are tuples; no argument is changed."""

    def results(self):
        pair = ((3, 1, 4, 2), (2, 4, 1, 3))
        signs = ((3, -1, -4, 2), (-2, -4, 1, 3))
        script_of_turns = (("turn", 0, 2), ("turn", 3, 3))
        script = (("swap", 0, 1), ("blocks", 0, 1, 2, 4))
        two = (bodies.Body(3, (("open", (1, -2, 3)),)), bodies.Body(3, (("open", (1, 2, 3)),)))
        return [
            (rows.check_row, pair[:1]), (rows.sorted_row, (5,)), (rows.relative_row, pair), (rows.rings, pair[:1]),
            (rows.block_rings, pair[:1]), (moves.do_move, (pair[0], script[1])), (moves.do_script, (pair[0], script)),
            (swaps.least_swaps, pair), (swaps.swap_script, pair), (swaps.swap_ways, pair),
            (nexts.least_nexts, pair), (nexts.next_script, pair), (nexts.next_ways, pair),
            (takes.rising, pair[:1]), (takes.falls, pair[:1]), (takes.least_takes, pair), (takes.take_script, pair),
            (blocks.least_blocks, pair), (blocks.block_script, pair),
            (spheres.how_many, ("take", 5, 2)), (numbering.row_number, pair[:1]), (numbering.row_at, (4, 13)),
            (signed.check_signed, signs[:1]), (signed.do_turn, (signs[0], script_of_turns[0])),
            (signed.do_turns, (signs[0], script_of_turns)), (signed.relative_signed, signs), (signed.breaks, signs[:1]),
            (drawing.marks, signs[:1]), (drawing.light_lines, signs[:1]), (drawing.drawing_rings, signs[:1]),
            (parts.is_oriented, ((1, 4),)), (parts.crosses, ((1, 4), (2, 6))), (parts.parts, pair[:1]),
            (parts.bad_parts, pair[:1]), (hurdles.hurdles, pair[:1]), (hurdles.great_hurdles, pair[:1]),
            (hurdles.is_fortress, pair[:1]), (turns.least_turns, signs), (turns.turn_script, signs),
            (flips.least_flips, pair), (flips.flip_script, pair),
            (closed.opened, signs[:1]), (closed.is_same_closed, signs), (closed.least_closed_turns, signs),
            (closed.closed_turn_script, signs), (together.common_stretches, pair),
            (bodies.body_of, (3, [(1, 2), (6, 3)])), (cuts.do_cut, (two[0], ("cut", 2, 4))),
            (cuts.do_cuts, (two[0], (("cut", 2, 4), ("join", 1, 2)))),
            (recuts.web, two), (recuts.least_recuts, two), (recuts.recut_script, two), (recuts.recut_ways, two),
            (singles.least_singles, two), (singles.single_script, two), (singles.single_ways, two),
            (middles.cost, (two[0], two)), (middles.middle, (two,)), (families.check_tree, ((1, 0), 2)),
            (families.ancestors, ((1, 0), two)), (families.tree_cost, ((two[0], 1, 0), two)), (besttree.trees, (4,)),
            (besttree.best_tree, (two,)), (papers.paper, ("blocks", *pair)),
            (papers.shown, ("next", *pair, ("pairs", ((0, 1),)))),
        ]

    def test_values_are_tuples_and_integers(self):
        for function, arguments in self.results():
            if function.__name__ in ANSWERS:
                self.assertIs(type(function(*arguments)), bool, function.__name__)
            elif function.__name__ in BODIES:
                self.assertIs(type(function(*arguments)), bodies.Body, function.__name__)
            else:
                self.assertTrue(is_plain_value(function(*arguments)), function.__name__)

    def test_arguments_stay_and_results_come_again(self):
        for function, arguments in self.results():
            before = copy.deepcopy(arguments)
            result = function(*arguments)
            self.assertEqual(arguments, before)
            self.assertEqual(function(*arguments), result)

    def test_each_function_is_called_here(self):
        called = [function.__name__ for function, _ in self.results()]
        self.assertEqual(sorted(called), sorted([name for module in FUNCTIONS.values() for name in module]))


if __name__ == "__main__":
    unittest.main()
