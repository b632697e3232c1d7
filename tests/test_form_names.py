"""Names in the files of the package: each bound once, each import used."""

import ast
import unittest

from tests.test_form import FILES


class NamesTest(unittest.TestCase):
    def trees(self):
        for path in FILES:
            yield path, ast.parse(path.read_text())

    def test_each_name_is_bound_once(self):
        for path, tree in self.trees():
            told = []
            for node in tree.body:
                if isinstance(node, (ast.FunctionDef, ast.ClassDef)):
                    told.append(node.name)
                elif isinstance(node, ast.ImportFrom):
                    told += [alias.name for alias in node.names]
                elif isinstance(node, ast.Assign):
                    told += [target.id for target in node.targets]
                if isinstance(node, ast.ClassDef):
                    methods = [entry.name for entry in node.body if isinstance(entry, ast.FunctionDef)]
                    self.assertEqual(len(methods), len(set(methods)), (path, node.name))
            self.assertEqual(len(told), len(set(told)), path)

    def test_each_import_is_used(self):
        for path, tree in self.trees():
            told = {alias.name for node in tree.body if isinstance(node, ast.ImportFrom) for alias in node.names}
            read = {node.id for node in ast.walk(tree) if isinstance(node, ast.Name)}
            self.assertEqual(told - read, set(), path)

    def test_no_two_files_import_from_each_other(self):
        needs = {}
        for path, tree in self.trees():
            needs[path.stem] = {node.module.split(".")[1] for node in tree.body
                                if isinstance(node, ast.ImportFrom) and node.module.startswith("everydepth.")}
        ready = []
        while len(ready) < len(needs):
            more = [name for name in needs if name not in ready and needs[name] <= set(ready)]
            self.assertTrue(more, sorted(set(needs) - set(ready)))
            ready += more

    def test_no_generators_and_no_name_for_a_method_and_an_attribute(self):
        methods, attributes = set(), set()
        for path, tree in self.trees():
            for node in ast.walk(tree):
                self.assertNotIsInstance(node, (ast.GeneratorExp, ast.Yield, ast.YieldFrom, ast.Try), path)
                if isinstance(node, ast.ClassDef):
                    methods |= {entry.name for entry in node.body if isinstance(entry, ast.FunctionDef)}
                if isinstance(node, ast.Attribute) and isinstance(node.ctx, ast.Store):
                    attributes.add(node.attr)
        self.assertEqual(methods & attributes, set())


if __name__ == "__main__":
    unittest.main()
