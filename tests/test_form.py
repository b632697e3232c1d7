"""The rules of LANGUAGE.md that are plain to count: names and words, sizes, builtins, signs."""

import ast
import re
import unittest
from pathlib import Path

import everydepth

FOLDER = Path(everydepth.__file__).parent
FILES = sorted(FOLDER.glob("**/*.py"))
BUILTINS = """len range enumerate zip min max sum abs sorted reversed int str bool list tuple dict set isinstance ord
repr any all divmod iter next getattr hasattr setattr super property staticmethod classmethod map Exception ValueError
TypeError KeyError IndexError ZeroDivisionError StopIteration NotImplemented NotImplementedError""".split()
WORDS = """typing enum namedtuple dataclass abstractmethod eval exec compile globals locals vars open input register
law elements breakpoint delattr dir help id type""".split()
PLAIN_LIBRARY = ("heapq", "math", "itertools", "collections")
REFUSED = (ast.Global, ast.AsyncFunctionDef, ast.Await, ast.Div, ast.Import)


class FormTest(unittest.TestCase):
    def trees(self):
        for path in FILES:
            yield path, ast.parse(path.read_text())

    def test_files(self):
        found = [p for p in FOLDER.rglob("*") if p.is_file() and "__pycache__" not in p.parts]
        self.assertEqual(sorted(found), FILES)
        for path in FILES:
            self.assertRegex(path.name, r"^[a-z_]+\.py$")
            text = path.read_bytes()
            self.assertTrue(all(sign == 10 or 32 <= sign <= 126 for sign in text), path)
            lines = text.decode().splitlines()
            self.assertLess(len(lines), 400, path)
            self.assertLessEqual(max([len(line) for line in lines], default=0), 120, path)

    def test_functions_have_at_most_40_lines(self):
        for path, tree in self.trees():
            for node in ast.walk(tree):
                if isinstance(node, ast.FunctionDef):
                    self.assertLessEqual(node.end_lineno - node.lineno + 1, 40, (path, node.name))
                    self.assertFalse([d for d in node.decorator_list if not isinstance(d, (ast.Name, ast.Attribute))])

    def test_imports_are_of_the_package(self):
        for path, tree in self.trees():
            for node in ast.walk(tree):
                if isinstance(node, ast.ImportFrom):
                    self.assertEqual(node.level, 0)
                    self.assertTrue(node.module.startswith("everydepth.") or node.module in PLAIN_LIBRARY, path)
                self.assertNotIsInstance(node, REFUSED, path)

    def test_no_floats_and_plain_exponents(self):
        for path, tree in self.trees():
            for node in ast.walk(tree):
                if isinstance(node, ast.Constant):
                    self.assertNotIsInstance(node.value, (float, complex), path)
                    self.assertFalse(isinstance(node.value, str) and "%" in node.value, path)
                if isinstance(node, ast.BinOp) and isinstance(node.op, ast.Pow):
                    self.assertIsInstance(node.right, ast.Constant, path)

    def test_names(self):
        for path, tree in self.trees():
            own = set()
            for node in ast.walk(tree):
                if isinstance(node, (ast.FunctionDef, ast.ClassDef)):
                    own.add(node.name)
                    if isinstance(node, ast.FunctionDef):
                        own |= {arg.arg for arg in node.args.args}
                elif isinstance(node, ast.ImportFrom):
                    own |= {alias.name for alias in node.names}
                elif isinstance(node, ast.Name) and isinstance(node.ctx, ast.Store):
                    own.add(node.id)
            self.assertFalse(own & set(BUILTINS + WORDS), path)
            read = {node.id for node in ast.walk(tree) if isinstance(node, ast.Name)}
            self.assertEqual(sorted(read - own - set(BUILTINS)), [], path)

    def test_no_local_name_is_that_of_an_import(self):
        for path, tree in self.trees():
            told = {alias.name for node in tree.body if isinstance(node, ast.ImportFrom) for alias in node.names}
            told |= {node.name for node in tree.body if isinstance(node, ast.ClassDef)}
            for node in ast.walk(tree):
                if isinstance(node, ast.Name) and isinstance(node.ctx, ast.Store):
                    self.assertNotIn(node.id, told, path)
                if isinstance(node, ast.arg):
                    self.assertNotIn(node.arg, told, path)

    def test_words_that_occur_nowhere(self):
        for path in FILES:
            words = set(re.findall(r"\w+", path.read_text()))
            for word in ("dataclass", "overload", "contextmanager", "_wall", "_WallAttr", "eval", "exec", "mro"):
                self.assertFalse([found for found in words if found == word], (path, word))


if __name__ == "__main__":
    unittest.main()
