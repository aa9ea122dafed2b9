"""The rules for the package's code that can be seen in its files without much ado."""

import ast
import unittest
from pathlib import Path

ROOT = Path(__file__).resolve().parent.parent
PACKAGE = ROOT / "tidefold"
LIBRARY = ("heapq", "math", "itertools", "collections")
BUILTINS = (
    "len range enumerate zip min max sum abs sorted reversed int str bool bytes list tuple dict set "
    "frozenset isinstance ord repr any all divmod pow getattr hasattr setattr Exception ValueError "
    "TypeError KeyError IndexError LookupError ZeroDivisionError ArithmeticError OverflowError "
    "RuntimeError NotImplementedError AttributeError StopIteration NotImplemented iter next super"
).split()
BARRED = (
    ast.AsyncFor,
    ast.AsyncFunctionDef,
    ast.AsyncWith,
    ast.Await,
    ast.Global,
    ast.Div,
    ast.MatMult,
    ast.TryStar,
    ast.Import,
)


def files():
    """Return the files of the package with their trees."""
    return [(path, ast.parse(path.read_text("utf-8"))) for path in sorted(PACKAGE.rglob("*.py"))]


def bound_names(tree):
    """Return the names that a file gives to anything."""
    found = {}
    for node in ast.walk(tree):
        if isinstance(node, (ast.FunctionDef, ast.ClassDef)):
            found[node.name] = True
        elif isinstance(node, ast.arg):
            found[node.arg] = True
        elif isinstance(node, ast.alias):
            found[node.name] = True
        elif isinstance(node, ast.Name) and not isinstance(node.ctx, ast.Load):
            found[node.id] = True
    return found


class Language(unittest.TestCase):
    def test_the_folder_contains_nothing_else(self):
        self.assertTrue((PACKAGE / "__init__.py").is_file())
        for path in PACKAGE.rglob("*"):
            if "__pycache__" not in path.parts:
                self.assertEqual(path.suffix, ".py", path)

    def test_sizes(self):
        for path, tree in files():
            lines = path.read_text("utf-8").split("\n")
            self.assertLessEqual(len(lines), 399, path)
            for line in lines:
                self.assertLessEqual(len(line), 120, path)
            for node in ast.walk(tree):
                if isinstance(node, ast.FunctionDef):
                    self.assertLessEqual(node.end_lineno - node.lineno + 1, 40, node.name)

    def test_characters(self):
        for path, tree in files():
            for character in path.read_text("utf-8"):
                self.assertTrue(character == "\n" or " " <= character <= "~", path)
            for node in ast.walk(tree):
                if isinstance(node, ast.Constant) and isinstance(node.value, str):
                    self.assertNotIn("%", node.value, path)

    def test_imports(self):
        for path, tree in files():
            for node in ast.walk(tree):
                if isinstance(node, ast.ImportFrom):
                    self.assertIn(node, tree.body, path)
                    self.assertEqual(node.level, 0, path)
                    self.assertIn(node.module.split(".")[0], ("tidefold",) + LIBRARY, path)
                    for alias in node.names:
                        self.assertNotEqual(alias.name, "*", path)

    def test_module_level(self):
        for path, tree in files():
            for at, node in enumerate(tree.body):
                if isinstance(node, ast.Expr):
                    self.assertEqual(at, 0, path)
                    self.assertIsInstance(node.value.value, str, path)
                elif isinstance(node, ast.Assign):
                    self.assertEqual(len(node.targets), 1, path)
                    self.assertIsInstance(node.targets[0], ast.Name, path)
                else:
                    self.assertIsInstance(node, (ast.ImportFrom, ast.FunctionDef, ast.ClassDef))

    def test_what_is_not_used(self):
        for path, tree in files():
            for node in ast.walk(tree):
                self.assertNotIsInstance(node, BARRED, path)
                self.assertFalse(isinstance(node, ast.Constant) and isinstance(node.value, float), path)
                if isinstance(node, ast.ClassDef):
                    self.assertEqual(node.decorator_list, [], path)

    def test_names(self):
        for path, tree in files():
            bound = bound_names(tree)
            for name in BUILTINS:
                self.assertNotIn(name, bound, path)
            for node in ast.walk(tree):
                if isinstance(node, ast.Name) and isinstance(node.ctx, ast.Load):
                    self.assertTrue(node.id in bound or node.id in BUILTINS, (path, node.id))

    def test_every_function_tells_what_it_is_for(self):
        for path, tree in files():
            for node in ast.walk(tree):
                if isinstance(node, (ast.Module, ast.ClassDef, ast.FunctionDef)):
                    if getattr(node, "name", "") != "__init__":
                        self.assertIsNotNone(ast.get_docstring(node), (path, node))


class Interface(unittest.TestCase):
    def test_each_name_is_defined_in_its_file(self):
        listed = {
            "errors.py": ["FlowError", "PlanError", "NoSuchSource", "LateRow", "NotThere", "MarkGoesBack"],
            "tokens.py": ["tokens"],
            "parsing.py": ["parse_plan"],
            "printing.py": ["print_plan", "sources"],
        }
        for name, words in listed.items():
            tree = ast.parse((PACKAGE / name).read_text("utf-8"))
            defined = [n.name for n in tree.body if isinstance(n, (ast.FunctionDef, ast.ClassDef))]
            for word in words:
                self.assertIn(word, defined)


if __name__ == "__main__":
    unittest.main()
