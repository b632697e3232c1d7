"""The names, files and parameters of DOC.md's interface from centres.py on, and its classes."""

import ast
import importlib
import inspect
import unittest
from pathlib import Path

import everydepth
from everydepth.errors import Unlike
from tests.model import CARPET, OTHER, STAIRS

INTERFACE = {
    "centres": {
        "moments": "picture depth shade", "moments_in": "picture depth shade rectangle", "centre": "picture depth shade",
        "spread": "picture depth shade", "first_unlike_moments": "one other shade",
    },
    "lines": {
        "line_counts": "picture depth along line", "line_cell": "picture depth along line shade number",
        "longest_on": "picture depth along line shades", "unlike_on": "one other depth along line other_line",
        "border_parting": "one other along last", "border_counts_unlike": "one other along last shade",
    },
    "slants": {
        "on_slant": "picture depth slant", "ahead_of_slant": "picture depth slant",
        "number_on": "picture depth slant shade row column", "nth_on": "picture depth slant shade number",
        "corner_parting": "one other slope", "corner_counts_unlike": "one other slope shade",
        "corner_shades": "picture slope",
    },
    "endless": {
        "grows": "picture", "endless_shade": "picture row column", "endless_counts": "picture rectangle",
        "endless_first": "picture shade", "endless_parting": "one other move", "squared": "picture",
        "squared_parting": "one other",
    },
    "texts": {
        "show_picture": "picture", "show_address": "address", "show_sheet": "picture depth", "show_counts": "counts",
        "show_story": "story",
    },
    "reading": {"read_picture": "text", "read_address": "text", "read_counts": "text", "read_story": "text"},
}
CLASSES = {
    "livesheet": {"Sheet": {
        "__init__": "self picture depth", "paint": "self address letter", "copy_block": "self address other",
        "swap_blocks": "self address other", "undo": "self", "begin": "self", "keep": "self", "drop": "self",
        "twin": "self", "letter_at": "self row column", "shade_at": "self row column", "counts": "self",
        "counts_in": "self rectangle", "blocks": "self", "unlike_cells": "self other", "picture": "self", "depth": "self",
        "parts": "self", "story": "self", "__len__": "self", "__eq__": "self other",
    }},
    "desk": {"Desk": {"__init__": "self", "execute": "self line"}},
}
ARGUMENTS = {
    "picture": STAIRS, "depth": 2, "shade": 0, "one": STAIRS, "other": OTHER, "rectangle": (0, 1, 2, 3), "along": "row",
    "line": 2, "other_line": 1, "number": 0, "shades": (1,), "last": True, "slant": (1, 1, 3), "slope": (1, 2), "row": 3,
    "column": 1, "move": (0, 1), "address": ((0, 1),), "counts": (1, 2, 3, 4), "story": (("paint", (), 1),),
    "text": "00",
}
SPECIAL = {
    "read_picture": {"text": "2; 3; 0 0 / 0 0; 0"}, "read_counts": {"text": "1 2 3 4"}, "read_story": {"text": "-"},
    "squared_parting": {"other": ((4, (3,), (((0,) * 4,) * 4,)), 0)}, "unlike_on": {"other": (STAIRS[0], 1)},
    "border_parting": {"other": (STAIRS[0], 1)}, "border_counts_unlike": {"other": (STAIRS[0], 1)},
    "corner_parting": {"other": (STAIRS[0], 1)}, "corner_counts_unlike": {"other": (STAIRS[0], 1)},
    "first_unlike_moments": {"other": (STAIRS[0], 1)},
}
KINDS = {
    "grows": bool, "first_unlike_moments": int, "line_cell": int, "unlike_on": int, "border_counts_unlike": int,
    "number_on": int, "corner_counts_unlike": int, "endless_shade": int, "show_picture": str, "show_address": str,
    "show_sheet": str, "show_counts": str, "show_story": str,
}
ONE_BASE = ["first_unlike_moments", "unlike_on", "border_parting", "border_counts_unlike", "corner_parting",
            "corner_counts_unlike", "endless_parting"]


def tree_of(file):
    return ast.parse((Path(everydepth.__file__).parent / (file + ".py")).read_text())


class InterfaceTest(unittest.TestCase):
    def each_function(self):
        for file, functions in INTERFACE.items():
            module = importlib.import_module("everydepth." + file)
            for name, parameters in functions.items():
                told = {key: SPECIAL.get(name, {}).get(key, ARGUMENTS[key]) for key in parameters.split()}
                yield getattr(module, name), told

    def test_each_is_defined_in_its_file(self):
        for file, functions in INTERFACE.items():
            defined = [node.name for node in tree_of(file).body if isinstance(node, ast.FunctionDef)]
            for name in functions:
                self.assertEqual(defined.count(name), 1, name)

    def test_classes_and_their_methods(self):
        for file, classes in CLASSES.items():
            found = {node.name: node for node in tree_of(file).body if isinstance(node, ast.ClassDef)}
            for name, methods in classes.items():
                told = {node.name: [arg.arg for arg in node.args.args] for node in found[name].body
                        if isinstance(node, ast.FunctionDef)}
                for method, parameters in methods.items():
                    self.assertEqual(told[method], parameters.split(), method)

    def test_parameters(self):
        for function, told in self.each_function():
            self.assertEqual(list(inspect.signature(function).parameters), list(told), function)

    def test_by_position_and_by_name(self):
        for function, told in self.each_function():
            found = function(*told.values())
            self.assertEqual(function(**dict(reversed(told.items()))), found)

    def test_kinds_of_values(self):
        for function, told in self.each_function():
            found = function(*told.values())
            self.assertIs(found.__class__, KINDS.get(function.__name__, tuple), function)

    def test_unlike_bases(self):
        for function, told in self.each_function():
            if function.__name__ in ONE_BASE:
                with self.assertRaises(Unlike) as caught:
                    function(**{**told, "other": CARPET})
                self.assertEqual(caught.exception.value, 3)

    def test_no_list_is_returned_or_kept(self):
        # All that these files return, but for the blocks of a Sheet, are tuples, integers, texts, True and False.
        def kinds(value):
            yield value.__class__
            if isinstance(value, tuple):
                for entry in value:
                    yield from kinds(entry)
        for function, told in self.each_function():
            self.assertTrue(set(kinds(function(*told.values()))) <= {tuple, int, str, bool}, function)


if __name__ == "__main__":
    unittest.main()
