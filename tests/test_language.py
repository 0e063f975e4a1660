"""What can be seen at a glance of the rules for the package's own files."""

import ast
import builtins
import pathlib
import re
import unittest

PACKAGE = pathlib.Path(__file__).resolve().parent.parent / "turndrum"
FILES = sorted(PACKAGE.rglob("*.py"))

# L6 and L7, as far as this program needs them.
NODES = (
    "Module FunctionDef ClassDef arguments arg ImportFrom alias Expr Assign AugAssign If While For Return Break Continue"
    " Pass Name Load Store Attribute Subscript Slice Constant List Tuple Dict Call keyword ListComp comprehension IfExp"
    " JoinedStr FormattedValue BinOp Add Sub Mult FloorDiv Mod UnaryOp USub Not BoolOp And Or"
    " Compare Eq NotEq Lt LtE Gt GtE In NotIn").split()
OWN_OF_PYTHON = (
    "len range enumerate zip min max sum abs sorted reversed int str bool list tuple dict isinstance ord repr any all"
    " divmod").split()
METHODS = (
    "append clear copy count endswith extend find get index insert isalnum isalpha isdigit islower isspace isupper items"
    " join keys ljust lower lstrip partition pop remove replace reverse rfind rjust rpartition rsplit rstrip setdefault"
    " split splitlines startswith strip update upper values zfill bit_length").split()
WORDS_NOWHERE = (
    "type typing typing_extensions enum Enum IntEnum StrEnum Flag IntFlag Generic Protocol ABC ABCMeta namedtuple"
    " NamedTuple TypedDict TYPE_CHECKING abstractmethod").split()
NAMES_NOWHERE = "register mro elements open input version_info with_traceback add_note format format_map args".split()


def nodes(tree, *kinds):
    return [node for node in ast.walk(tree) if isinstance(node, kinds)]


def bad_lines(text):
    return [row for row in text.split("\n")
            if len(row) > 120 or any(not " " <= sign <= "~" for sign in row)]


def foreign_imports(tree):
    return [ast.unparse(row) for row in nodes(tree, ast.Import, ast.ImportFrom)
            if isinstance(row, ast.Import) or row.level or not row.module.startswith("turndrum.")]


def long_functions(tree):
    return [node.name for node in nodes(tree, ast.FunctionDef) if node.end_lineno - node.lineno >= 40]


def foreign_nodes(tree):
    return sorted({type(node).__name__ for node in ast.walk(tree)} - set(NODES))


def bound_names(tree):
    names = [node.id for node in nodes(tree, ast.Name) if isinstance(node.ctx, ast.Store)]
    names += [node.arg for node in nodes(tree, ast.arg)]
    names += [node.name for node in nodes(tree, ast.FunctionDef, ast.ClassDef)]
    names += [node.attr for node in nodes(tree, ast.Attribute)]
    return [name for name in names if name != "__init__"]


def bad_names(tree):
    return [name for name in bound_names(tree) if name.startswith("_") or name in NAMES_NOWHERE]


def names_of_python_bound(tree):
    attributes = [node.attr for node in nodes(tree, ast.Attribute)]
    return [name for name in bound_names(tree) if hasattr(builtins, name) and name not in attributes]


def foreign_names(tree):
    return [node.id for node in nodes(tree, ast.Name)
            if isinstance(node.ctx, ast.Load) and hasattr(builtins, node.id) and node.id not in OWN_OF_PYTHON]


def called_methods(tree):
    return [node.func.attr for node in nodes(tree, ast.Call) if isinstance(node.func, ast.Attribute)]


def own_methods(trees):
    return [row.name for tree in trees for node in nodes(tree, ast.ClassDef) for row in node.body
            if isinstance(row, ast.FunctionDef)]


def names_of_the_top(tree):
    names = []
    for row in tree.body:
        if isinstance(row, ast.Assign):
            names += [target.id for target in row.targets]
        elif isinstance(row, (ast.FunctionDef, ast.ClassDef)):
            names.append(row.name)
        elif isinstance(row, ast.ImportFrom):
            names += [alias.asname or alias.name for alias in row.names]
    return names


def wide_assignments(tree):
    return [ast.unparse(node) for node in nodes(tree, ast.Assign)
            if len(node.targets) != 1 or isinstance(node.targets[0], (ast.Tuple, ast.List))]


class LanguageTest(unittest.TestCase):
    def trees(self):
        return {path: ast.parse(path.read_text(encoding="utf-8")) for path in FILES}

    def test_there_are_files(self):
        self.assertIn(PACKAGE / "__init__.py", FILES)
        self.assertIn(PACKAGE / "store.py", FILES)

    def test_nothing_but_python_files(self):
        others = [path for path in PACKAGE.rglob("*")
                  if path.is_file() and path.suffix != ".py" and path.parent.name != "__pycache__"]
        self.assertEqual(others, [])

    def test_lines_and_files(self):
        for path in FILES:
            with self.subTest(path=path.name):
                text = path.read_text(encoding="utf-8")
                self.assertEqual(bad_lines(text), [])
                self.assertLessEqual(text.count("\n"), 400)
                self.assertEqual(sorted(set(re.findall(r"\w+", text)) & set(WORDS_NOWHERE)), [])

    def test_functions_and_imports(self):
        for path, tree in self.trees().items():
            with self.subTest(path=path.name):
                self.assertEqual(long_functions(tree), [])
                self.assertEqual(foreign_imports(tree), [])
                self.assertEqual(foreign_nodes(tree), [])
                self.assertEqual(wide_assignments(tree), [])

    def test_names(self):
        for path, tree in self.trees().items():
            with self.subTest(path=path.name):
                self.assertEqual(bad_names(tree), [])
                self.assertEqual(names_of_python_bound(tree), [])
                self.assertEqual(foreign_names(tree), [])
                top = names_of_the_top(tree)
                self.assertEqual(sorted(top), sorted(set(top)))

    def test_methods(self):
        trees = self.trees()
        known = own_methods(trees.values()) + METHODS
        for path, tree in trees.items():
            self.assertEqual([name for name in called_methods(tree) if name not in known], [], path.name)

    def test_nothing_unused_is_imported(self):
        for path, tree in self.trees().items():
            drawn = [alias.name for row in nodes(tree, ast.ImportFrom) for alias in row.names]
            used = [node.id for node in nodes(tree, ast.Name)]
            self.assertEqual([name for name in drawn if name not in used], [], path.name)


if __name__ == "__main__":
    unittest.main()
