"""Rules of LANGUAGE.md that can be seen file by file, and where the interface must stand."""

import ast
import builtins
import unittest
import warnings
from pathlib import Path

PACKAGE = Path(__file__).resolve().parent.parent / "failsalike"

# The files of the interface that have landed, and what each of them defines.
INTERFACE = {
    "errors": "FailsError Failed NameTaken BadTable NoTable NoColumn BadRow KeyTaken NoRow NoQuestion NotPlain TooGreat"
    " NoPlan Outdated NoGoal NoCourse InvalidText InvalidCommand NothingAsked NoRun",
    "values": "RANGE is_name is_value kind_of is_before",
    "facts": "Facts is_fact fact_holds",
}
BUILTINS = (
    "len range enumerate zip min max sum abs sorted reversed int str bool bytes list tuple dict set frozenset isinstance"
    " ord repr any all divmod pow getattr hasattr setattr map iter next property staticmethod classmethod super print"
    " Exception ValueError TypeError KeyError IndexError LookupError ZeroDivisionError ArithmeticError OverflowError"
    " RuntimeError NotImplementedError AttributeError StopIteration NotImplemented object"
).split()
LIBRARY = ("heapq", "math", "itertools", "collections", "__future__")


def sources():
    """Pairs of each file's path and its text."""
    return [(path, path.read_text("utf-8")) for path in sorted(PACKAGE.rglob("*.py"))]


def trees():
    """Pairs of each file's path and its tree."""
    return [(path, ast.parse(text)) for path, text in sources()]


class Files(unittest.TestCase):
    def test_nothing_but_files_of_python(self):
        for path in PACKAGE.rglob("*"):
            if "__pycache__" not in path.parts and not path.is_dir():
                self.assertEqual(path.suffix, ".py", path)
                self.assertRegex(path.stem, "^([a-z][a-z0-9_]*|__init__|__main__)$")
        self.assertTrue((PACKAGE / "__init__.py").is_file())

    def test_sizes_and_characters(self):
        for path, text in sources():
            lines = text.split("\n")
            self.assertLessEqual(len(lines), 399, path)
            self.assertLessEqual(max(len(line) for line in lines), 120, path)
            self.assertEqual([c for c in text if not (" " <= c <= "~" or c == "\n")], [], path)

    def test_sizes_of_functions(self):
        for path, tree in trees():
            for node in ast.walk(tree):
                if isinstance(node, ast.FunctionDef):
                    self.assertLessEqual(node.end_lineno - node.lineno + 1, 40, (path, node.name))

    def test_no_warnings(self):
        with warnings.catch_warnings():
            warnings.simplefilter("error")
            for path, text in sources():
                compile(text, str(path), "exec")


class Names(unittest.TestCase):
    def test_imports(self):
        for path, tree in trees():
            for node in ast.walk(tree):
                if isinstance(node, ast.Import):
                    self.assertEqual([path.stem, node.names[0].name], ["__main__", "sys"])
                if isinstance(node, ast.ImportFrom):
                    self.assertEqual(node.level, 0, path)
                    own = node.module.startswith("failsalike.")
                    self.assertTrue(own or node.module in LIBRARY, (path, node.module))

    def test_builtins(self):
        barred = [name for name in vars(builtins) if name not in BUILTINS]
        for path, tree in trees():
            for node in ast.walk(tree):
                if isinstance(node, ast.Name):
                    self.assertNotIn(node.id, barred + ["__debug__"], (path, node.lineno))
                if isinstance(node, ast.arg):
                    self.assertNotIn(node.arg, vars(builtins), (path, node.lineno))

    def test_no_floats_and_no_other_statements(self):
        barred = (ast.Div, ast.Global, ast.AsyncFunctionDef, ast.Await)
        for path, tree in trees():
            for node in ast.walk(tree):
                self.assertNotIsInstance(node, barred, path)
                if isinstance(node, ast.Constant):
                    self.assertNotIsInstance(node.value, (float, complex), path)

    def test_the_interface_is_defined_in_its_files(self):
        for file, names in INTERFACE.items():
            tree = ast.parse((PACKAGE / f"{file}.py").read_text("utf-8"))
            defined = [node.name for node in tree.body if isinstance(node, (ast.FunctionDef, ast.ClassDef))]
            defined += [node.targets[0].id for node in tree.body if isinstance(node, ast.Assign)]
            for name in names.split():
                self.assertEqual(defined.count(name), 1, (file, name))
