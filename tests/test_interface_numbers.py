"""The names, files and parameters of DOC.md's interface from counts.py on, as far as they have landed."""

import ast
import importlib
import inspect
import unittest
from pathlib import Path

import everydepth
from everydepth.errors import Unlike
from tests.model import CARPET, OTHER, PARITY, STAIRS

INTERFACE = {
    "counts": {
        "count": "picture depth shade", "counts": "picture depth", "total": "picture depth shade",
        "rest": "picture depth shade modulus", "rule": "picture shade", "same_counts": "one other shade",
        "first_unlike_count": "one other shade", "relations": "picture", "dependent": "pictures shade",
    },
    "patterns": {
        "comes": "picture pattern", "first_depth": "picture pattern", "pattern_at": "picture depth pattern",
        "patterns": "picture rows columns", "patterns_at": "picture depth rows columns",
        "first_place": "picture depth pattern", "last_place": "picture depth pattern",
        "pattern_count": "picture depth pattern", "pattern_rule": "picture pattern",
    },
    "seams": {
        "beside": "picture depth one other", "above": "picture depth one other", "rim": "picture depth shade",
        "border": "picture depth shade", "pieces_less_holes": "picture depth shades corners",
        "first_unlike_pieces": "one other shades corners",
    },
    "formulas": {
        "is_term": "value", "shade_of": "term depth row column", "made": "term", "same_terms": "one other",
        "terms_part": "one other",
    },
    "rectangles": {
        "in_rectangle": "picture depth rectangle", "number_of": "picture depth shade row column",
        "nth_cell": "picture depth shade number", "next_cell": "picture depth shade row column",
        "last_ahead": "picture depth shade row column", "frame": "picture depth shade",
    },
    "fulllines": {
        "is_within": "picture depth along line shades", "lines_within": "picture depth along shades",
        "nth_within": "picture depth along shades number", "number_within": "picture depth along shades line",
        "first_depth_within": "picture along shades", "last_depth_within": "picture along shades",
        "longest_within": "picture depth along shades", "lines_unlike": "one other along shades",
    },
    "moves": {
        "pairs_at": "one other depth move", "round_pairs": "one other depth move", "agreement": "one other depth move",
        "unlike_at": "one other depth move", "round_unlike_at": "one other depth move",
        "moved_parting": "one other move", "round_moves": "picture depth",
    },
}
ARGUMENTS = {
    "picture": STAIRS, "depth": 2, "shade": 1, "modulus": 5, "one": STAIRS, "other": CARPET, "pictures": [STAIRS, CARPET],
    "pattern": ((1, 0),), "rows": 2, "columns": 1, "shades": (1,), "corners": True, "value": STAIRS, "row": 1, "column": 1,
    "term": ("picture", STAIRS), "rectangle": (0, 1, 2, 3), "number": 1, "along": "row", "line": 3, "move": (1, 0),
}
# What another value is passed for.
SPECIAL = {
    "beside": {"one": 1, "other": 0}, "above": {"one": 1, "other": 0},
    "same_terms": {"one": ("picture", STAIRS), "other": ("picture", OTHER)},
    "terms_part": {"one": ("picture", STAIRS), "other": ("picture", OTHER)},
    "nth_within": {"number": 0}, "lines_unlike": {"other": (STAIRS[0], 1)}, "pairs_at": {"other": OTHER},
    "round_pairs": {"other": OTHER}, "agreement": {"other": OTHER}, "unlike_at": {"other": OTHER},
    "round_unlike_at": {"other": OTHER}, "moved_parting": {"other": OTHER},
}
KINDS = {
    "count": int, "counts": tuple, "total": int, "rest": int, "rule": list, "first_unlike_count": int, "relations": list,
    "dependent": list, "first_depth": int, "patterns": list, "patterns_at": list, "first_place": tuple,
    "last_place": tuple, "pattern_count": int, "pattern_rule": list, "beside": int, "above": int, "rim": int,
    "border": int, "pieces_less_holes": int, "first_unlike_pieces": int, "shade_of": int, "made": tuple,
    "terms_part": tuple, "in_rectangle": tuple, "number_of": int, "nth_cell": tuple, "next_cell": tuple,
    "last_ahead": tuple, "frame": tuple, "is_within": bool, "lines_within": int, "nth_within": int,
    "number_within": int, "first_depth_within": int, "last_depth_within": str, "longest_within": tuple,
    "lines_unlike": int, "pairs_at": tuple, "round_pairs": tuple, "agreement": int, "unlike_at": tuple,
    "round_unlike_at": tuple, "moved_parting": tuple, "round_moves": list,
}
# Of two pictures these alone ask for one base.
ONE_BASE = [
    "same_terms", "terms_part", "lines_unlike", "pairs_at", "round_pairs", "agreement", "unlike_at", "round_unlike_at",
    "moved_parting",
]


class InterfaceTest(unittest.TestCase):
    def each_function(self):
        for file, functions in INTERFACE.items():
            module = importlib.import_module("everydepth." + file)
            for name, parameters in functions.items():
                told = {key: SPECIAL.get(name, {}).get(key, ARGUMENTS[key]) for key in parameters.split()}
                yield getattr(module, name), told

    def test_each_is_defined_in_its_file(self):
        for file, functions in INTERFACE.items():
            tree = ast.parse((Path(everydepth.__file__).parent / (file + ".py")).read_text())
            defined = [node.name for node in tree.body if isinstance(node, ast.FunctionDef)]
            for name in functions:
                self.assertEqual(defined.count(name), 1, name)

    def test_parameters(self):
        for function, told in self.each_function():
            self.assertEqual(list(inspect.signature(function).parameters), list(told), function)

    def test_by_position_and_by_name(self):
        for function, told in self.each_function():
            found = function(*told.values())
            self.assertEqual(function(**dict(reversed(told.items()))), found)

    def test_kinds_of_values(self):
        for function, told in self.each_function():
            wanted = KINDS.get(function.__name__, bool)
            self.assertIs(function(*told.values()).__class__, wanted, function)

    def test_unlike_bases(self):
        for function, told in self.each_function():
            if function.__name__ in ONE_BASE:
                told["other"] = ("picture", CARPET) if "term" in function.__name__ else CARPET
                with self.assertRaises(Unlike) as caught:
                    function(*told.values())
                self.assertEqual(caught.exception.value, 3)


if __name__ == "__main__":
    unittest.main()
