"""The interface as the document lists it, and the form of the code as far as a test sees it.

Point 1: what imports nothing but its own files, and names no builtin for it, has no clock, no chance and no files.
"""

import ast
import re
import unittest
from pathlib import Path

PACKAGE = Path(__file__).resolve().parent.parent / "cornerhouse"

CLASSES = {
    "errors.py": {"BodyError": [], "BadBody": [], "Uneven": [], "NoAxis": []},
    "bodies.py": {"Body": [("is_empty", ["self"]), ("is_bounded", ["self"]), ("holds", ["self", "point"])]},
}
FUNCTIONS = {
    "whole.py": {"lowest": ["numbers"], "rank": ["rows"]},
    "cones.py": {"cone": ["rows", "size"]},
    "bodies.py": {"by_rows": ["dim", "rows"], "by_corners": ["dim", "corners", "rays"]},
    "deeds.py": {
        "cut": ["one", "other"], "joined": ["one", "other"], "summed": ["one", "other"],
        "shadowed": ["body", "axis"], "mapped": ["body", "table", "shift"],
    },
    "pricing.py": {"priced": ["dim", "rows", "direction"], "parted": ["one", "other"]},
    "weaving.py": {
        "woven": ["dim", "corners", "rays", "point"], "within": ["one", "other"], "same": ["one", "other"],
    },
    "faces.py": {"dimension": ["body"], "faces": ["body"], "inner": ["body"]},
}
BARRED_CALLS = {"open", "input", "print", "eval", "exec", "compile", "globals", "getattr", "float", "hash", "id"}
BARRED_WORDS = re.compile(r"\b(type|typing|enum|Enum|Flag|Generic|Protocol|ABC|namedtuple|law)\b")


def parsed(name):
    return ast.parse((PACKAGE / name).read_text(encoding="ascii"))


def arguments(function):
    return [argument.arg for argument in function.args.args]


class Interface(unittest.TestCase):
    def test_classes(self):
        for name, classes in CLASSES.items():
            found = {node.name: node for node in parsed(name).body if isinstance(node, ast.ClassDef)}
            for wanted, methods in classes.items():
                self.assertIn(wanted, found)
                own = {node.name: node for node in found[wanted].body if isinstance(node, ast.FunctionDef)}
                for method, expected in methods:
                    self.assertEqual(arguments(own[method]), expected)

    def test_functions(self):
        for name, functions in FUNCTIONS.items():
            found = {node.name: node for node in parsed(name).body if isinstance(node, ast.FunctionDef)}
            for wanted, expected in functions.items():
                self.assertEqual(arguments(found[wanted]), expected)


class Form(unittest.TestCase):
    def files(self):
        return [path for path in sorted(PACKAGE.iterdir()) if path.name != "__pycache__"]

    def test_files(self):
        names = [path.name for path in self.files()]
        self.assertIn("__init__.py", names)
        self.assertTrue(all(re.fullmatch(r"[a-z_0-9]+\.py", name) for name in names), names)

    def test_sizes_and_characters(self):
        for path in self.files():
            lines = path.read_text(encoding="ascii").split("\n")
            self.assertLess(len(lines), 400, path)
            for line in lines:
                self.assertLessEqual(len(line), 120, line)
                self.assertTrue(re.fullmatch(r"[ -~]*", line), line)
                self.assertIsNone(BARRED_WORDS.search(line), line)

    def test_functions_are_small(self):
        for path in self.files():
            for node in ast.walk(parsed(path.name)):
                if isinstance(node, ast.FunctionDef):
                    self.assertLessEqual(node.end_lineno - node.lineno + 1, 40, node.name)

    def test_imports(self):
        for path in self.files():
            for node in ast.walk(parsed(path.name)):
                self.assertNotIsInstance(node, ast.Import, path)
                if isinstance(node, ast.ImportFrom):
                    self.assertEqual(node.level, 0)
                    self.assertTrue(node.module.startswith("cornerhouse."), node.module)

    def test_whole_numbers_alone(self):
        for path in self.files():
            for node in ast.walk(parsed(path.name)):
                self.assertNotIsInstance(node, ast.Div, path)
                if isinstance(node, ast.Constant):
                    self.assertNotIsInstance(node.value, (float, complex), path)
                if isinstance(node, ast.Name):
                    self.assertNotIn(node.id, BARRED_CALLS, path)


if __name__ == "__main__":
    unittest.main()
