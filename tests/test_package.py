"""Point 1: the program uses no clock, chance or files, and keeps to a small part of Python."""

import ast
import pathlib
import unittest

PACKAGE = pathlib.Path(__file__).resolve().parent.parent / "crateslip"
OUT_OF_BOUNDS = ("open", "input", "print", "eval", "exec", "compile", "globals", "locals", "getattr", "setattr")


def sources():
    return sorted(PACKAGE.rglob("*.py"))


def walked(path):
    return ast.walk(ast.parse(path.read_text(encoding="ascii"), str(path)))


class Package(unittest.TestCase):
    def test_modules_are_there(self):
        names = [path.name for path in sources()]
        for name in ("__init__.py", "errors.py", "reading.py", "signs.py", "states.py", "tidying.py", "writing.py"):
            self.assertIn(name, names)

    def test_nothing_else_lies_in_the_package(self):
        for path in PACKAGE.iterdir():
            if path.name != "__pycache__":
                self.assertEqual(path.suffix, ".py", path.name)

    def test_only_own_modules_are_imported(self):
        for path in sources():
            for node in walked(path):
                self.assertNotIsInstance(node, ast.Import, path.name)
                if isinstance(node, ast.ImportFrom):
                    self.assertEqual(node.level, 0, path.name)
                    self.assertEqual(node.module.split(".")[0], "crateslip", path.name)

    def test_no_names_that_reach_outside(self):
        for path in sources():
            for node in walked(path):
                if isinstance(node, ast.Name):
                    self.assertNotIn(node.id, OUT_OF_BOUNDS, path.name)
                    self.assertFalse(node.id.startswith("_"), path.name)

    def test_lines(self):
        for path in sources():
            lines = path.read_text(encoding="ascii").split("\n")
            self.assertLessEqual(len(lines), 401, path.name)
            for line in lines:
                self.assertLessEqual(len(line), 120, path.name)
                self.assertNotIn("\t", line, path.name)


if __name__ == "__main__":
    unittest.main()
