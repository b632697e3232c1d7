import ast
import unittest
from pathlib import Path

from everydepth import errors

NAMES = """InvalidPicture InvalidBook InvalidShade InvalidDepth InvalidLetter InvalidNumber InvalidPlace
InvalidPattern InvalidTable InvalidTerm InvalidRectangle InvalidWord InvalidSlant InvalidSlope InvalidMove
NotEndless InvalidAddress InvalidCounts InvalidStory Unreadable InvalidCommand Unlike TooMany Nothing NoPart
NotReady""".split()


class ErrorsTest(unittest.TestCase):
    def test_classes_stand_directly_under_sheet_error(self):
        self.assertEqual(errors.SheetError.__bases__, (ValueError,))
        for name in NAMES:
            self.assertEqual(getattr(errors, name).__bases__, (errors.SheetError,), name)

    def test_no_other_class(self):
        tree = ast.parse(Path(errors.__file__).read_text())
        found = [node.name for node in tree.body if isinstance(node, ast.ClassDef)]
        self.assertEqual(sorted(found), sorted(NAMES + ["SheetError"]))

    def test_value_is_stored_itself(self):
        for name in NAMES + ["SheetError"]:
            made = getattr(errors, name)
            for value in [None, 0, True, "text", (1, [2]), [[1], (2,)], {"a": []}, object()]:
                self.assertIs(made(value).value, value)
                self.assertIs(made(value=value).value, value)

    def test_one_argument_is_needed(self):
        for name in NAMES + ["SheetError"]:
            with self.assertRaises(TypeError):
                getattr(errors, name)()
            with self.assertRaises(TypeError):
                getattr(errors, name)(1, 2)

    def test_anew_builds_lists_and_tuples_only(self):
        inner = [1]
        kept = {"a": [1]}
        value = [inner, (inner, [inner]), kept, "ab", None, True]
        built = errors.anew(value)
        self.assertEqual(built, value)
        self.assertIsNot(built[0], inner)
        self.assertIsNot(built[1][0], inner)
        self.assertIsNot(built[0], built[1][0])
        self.assertEqual(built[2], kept)
        self.assertIs(built[5], True)

    def test_anew_of_what_is_nested_a_hundred_deep(self):
        value = []
        for level in range(99):
            value = [value] if level % 2 else (value,)
        self.assertEqual(errors.anew(value), value)


if __name__ == "__main__":
    unittest.main()
