"""The names, files and parameters of DOC.md's interface, as far as they have landed."""

import ast
import importlib
import inspect
import unittest
from pathlib import Path

import everydepth
from everydepth.errors import Unlike
from tests.model import CARPET, LATE, OTHER, PARITY, STAIRS

INTERFACE = {
    "pictures": {
        "is_book": "value", "is_picture": "value", "coming": "picture", "comes_at": "picture letter depth",
        "first_coming": "picture letter", "last_coming": "picture letter", "first_way": "picture letter",
        "trimmed": "picture",
    },
    "cells": {
        "letter_at": "picture depth row column", "shade_at": "picture depth row column",
        "part": "picture steps row column", "sheet": "picture depth",
        "cut": "picture depth row column rows columns",
    },
    "alike": {
        "alike": "one other", "parting": "one other", "alike_at": "one other depth", "alike_from": "one other",
        "closed_pairs": "one other", "pairs_hold": "one other value",
    },
    "least": {"classes": "book", "least": "picture", "is_least": "picture", "telling_depth": "book"},
    "together": {
        "put": "one other table", "mapped": "picture shades", "within": "one other shade",
        "first_without": "one other shade", "solved": "one result table", "unsolved": "one result table",
    },
    "turns": {"turned": "picture turn", "symmetries": "picture", "onto": "one other"},
}
ARGUMENTS = {
    "value": STAIRS, "picture": STAIRS, "letter": 1, "depth": 2, "row": 1, "column": 1, "rows": 2, "columns": 3,
    "steps": 2, "one": STAIRS, "other": OTHER, "book": STAIRS[0], "table": PARITY, "shades": (1, 0, 2, 3), "shade": 1,
    "result": OTHER, "turn": 5,
}


class InterfaceTest(unittest.TestCase):
    def each_function(self):
        for file, functions in INTERFACE.items():
            module = importlib.import_module("everydepth." + file)
            for name, parameters in functions.items():
                yield file, getattr(module, name), parameters.split()

    def test_each_is_defined_in_its_file(self):
        for file, functions in INTERFACE.items():
            tree = ast.parse((Path(everydepth.__file__).parent / (file + ".py")).read_text())
            defined = [node.name for node in tree.body if isinstance(node, ast.FunctionDef)]
            for name in functions:
                self.assertEqual(defined.count(name), 1, name)

    def test_parameters(self):
        for file, function, parameters in self.each_function():
            self.assertEqual(list(inspect.signature(function).parameters), parameters, function)

    def test_by_position_and_by_name(self):
        for file, function, parameters in self.each_function():
            told = {name: ARGUMENTS[name] for name in parameters}
            found = function(*told.values())
            self.assertEqual(function(**dict(reversed(told.items()))), found)

    def test_kinds_of_values(self):
        kinds = {
            "coming": list, "first_coming": int, "first_way": list, "trimmed": tuple, "part": tuple, "sheet": list,
            "cut": list, "parting": tuple, "closed_pairs": list, "classes": list, "least": tuple, "telling_depth": int,
            "put": tuple, "mapped": tuple, "turned": tuple, "symmetries": list, "onto": list, "letter_at": int,
            "shade_at": int, "solved": tuple, "first_without": tuple,
        }
        for file, function, parameters in self.each_function():
            found = function(*[ARGUMENTS[name] for name in parameters])
            if function.__name__ in kinds:
                self.assertIs(found.__class__, kinds[function.__name__], function)
            elif found is not None:
                self.assertIs(found.__class__, bool, function)

    def test_pictures_of_unlike_bases(self):
        for file, function, parameters in self.each_function():
            if parameters[0] == "one":
                told = [ARGUMENTS[name] for name in parameters]
                told[1] = CARPET
                with self.assertRaises(Unlike) as caught:
                    function(*told)
                self.assertEqual(caught.exception.value, 3)
                told[1] = LATE
                function(*told)


if __name__ == "__main__":
    unittest.main()
