"""What can be seen at a glance of the rules for the package's own files."""

import ast
import pathlib
import unittest

PACKAGE = pathlib.Path(__file__).resolve().parent.parent / "turndrum"
FILES = sorted(PACKAGE.rglob("*.py"))


def bad_lines(text):
    return [row for row in text.split("\n")
            if len(row) > 120 or any(not " " <= sign <= "~" for sign in row)]


def foreign_imports(tree):
    rows = [node for node in ast.walk(tree) if isinstance(node, (ast.Import, ast.ImportFrom))]
    return [ast.unparse(row) for row in rows
            if isinstance(row, ast.Import) or row.level or not row.module.startswith("turndrum.")]


def long_functions(tree):
    return [node.name for node in ast.walk(tree)
            if isinstance(node, ast.FunctionDef) and node.end_lineno - node.lineno >= 40]


class LanguageTest(unittest.TestCase):
    def test_there_are_files(self):
        self.assertIn(PACKAGE / "__init__.py", FILES)
        self.assertIn(PACKAGE / "store.py", FILES)

    def test_nothing_but_python_files(self):
        others = [path for path in PACKAGE.rglob("*")
                  if path.is_file() and path.suffix != ".py" and path.parent.name != "__pycache__"]
        self.assertEqual(others, [])

    def test_lines_files_functions_and_imports(self):
        for path in FILES:
            with self.subTest(path=path.name):
                text = path.read_text(encoding="utf-8")
                tree = ast.parse(text)
                self.assertEqual(bad_lines(text), [])
                self.assertLessEqual(text.count("\n"), 400)
                self.assertEqual(long_functions(tree), [])
                self.assertEqual(foreign_imports(tree), [])


if __name__ == "__main__":
    unittest.main()
