"""Rules of LANGUAGE.md that can be seen file by file, and where the interface must stand."""

import ast
import builtins
import unittest
import warnings
from pathlib import Path

PACKAGE = Path(__file__).resolve().parent.parent / "failsalike"

# The files of the interface, and what each of them defines.
INTERFACE = {
    "errors": "FailsError Failed NameTaken BadTable NoTable NoColumn BadRow KeyTaken NoRow NoQuestion NotPlain TooGreat"
    " NoPlan Outdated NoGoal NoCourse InvalidText InvalidCommand NothingAsked NoRun",
    "values": "RANGE is_name is_value kind_of is_before",
    "facts": "Facts is_fact fact_holds",
    "stores": "Store",
    "evaluating": "term_value condition_holds",
    "questions": "is_question part_at main_parts named exchanged",
    "guards": "guarded",
    "written": "combinations result_of written outcome",
    "storetexts": "show_store read_store",
    "questiontexts": "show_question read_question",
    "goals": "goals_of goal_of outcomes_of possible tested",
    "atoms": "solution is_contradiction contradiction settled",
    "papers": "paper_of paper_holds",
    "ledgers": "shapes_of can_fail alike true_plan never_holds alike_holds true_holds",
    "paths": "fetched cost",
    "plans": "plan_holds facts_of chosen",
    "runs": "Run",
    "engine": "Engine",
    "console": "Console",
}
# What the classes of the interface define in their own bodies.
METHODS = {
    "facts": {"Facts": "__init__ __add__ __contains__ __eq__"},
    "stores": {"Store": "__init__ of make put take schema rows entries facts copy __eq__"},
    "runs": {"Run": "__init__ step steps reads told frontier bound ended outcome stream"},
    "engine": {"Engine": "__init__ ask choices"},
    "console": {"Console": "__init__ say"},
}
# The methods of L25, which values of Python's own have.
OF_VALUES = (
    "append clear copy count endswith extend find get index insert isalnum isalpha isdigit islower isspace isupper items"
    " join keys ljust lower lstrip partition pop remove replace reverse rfind rjust rpartition rsplit rstrip setdefault"
    " split splitlines startswith strip update upper values zfill bit_length"
).split()
# Words that stand in no file, but for comments and docstrings.
BARRED = (
    "typing enum Enum Flag Generic Protocol ABC namedtuple NamedTuple TypedDict dataclass overload contextmanager"
    " register mro elements open input law version_info add_note"
).split()
BUILTINS = (
    "len range enumerate zip min max sum abs sorted reversed int str bool bytes list tuple dict set frozenset isinstance"
    " ord repr any all divmod pow getattr hasattr setattr map iter next property staticmethod classmethod super print"
    " Exception ValueError TypeError KeyError IndexError LookupError ZeroDivisionError ArithmeticError OverflowError"
    " RuntimeError NotImplementedError AttributeError StopIteration NotImplemented object"
).split()
LIBRARY = ("heapq", "math", "itertools", "collections", "__future__")


def sources():
    """Pairs of each file's path and its text."""
    return [(path, path.read_text("utf-8")) for path in sorted(PACKAGE.rglob("*.py"))]


def trees():
    """Pairs of each file's path and its tree."""
    return [(path, ast.parse(text)) for path, text in sources()]


def functions(tree):
    """Pairs of the class, or None, and the function for all functions and methods of a file."""
    found = []
    for node in tree.body:
        if isinstance(node, ast.FunctionDef):
            found.append((None, node))
        if isinstance(node, ast.ClassDef):
            found += [(node.name, below) for below in node.body if isinstance(below, ast.FunctionDef)]
    return found


class Files(unittest.TestCase):
    def test_nothing_but_files_of_python(self):
        for path in PACKAGE.rglob("*"):
            if "__pycache__" not in path.parts and not path.is_dir():
                self.assertEqual(path.suffix, ".py", path)
                self.assertRegex(path.stem, "^([a-z][a-z0-9_]*|__init__|__main__)$")
        self.assertTrue((PACKAGE / "__init__.py").is_file())

    def test_sizes_and_characters(self):
        for path, text in sources():
            lines = text.split("\n")
            self.assertLessEqual(len(lines), 399, path)
            self.assertLessEqual(max(len(line) for line in lines), 120, path)
            self.assertEqual([c for c in text if not (" " <= c <= "~" or c == "\n")], [], path)

    def test_sizes_of_functions(self):
        for path, tree in trees():
            for node in ast.walk(tree):
                if isinstance(node, ast.FunctionDef):
                    self.assertLessEqual(node.end_lineno - node.lineno + 1, 40, (path, node.name))

    def test_no_warnings(self):
        with warnings.catch_warnings():
            warnings.simplefilter("error")
            for path, text in sources():
                compile(text, str(path), "exec")


class Names(unittest.TestCase):
    def test_imports(self):
        for path, tree in trees():
            for node in ast.walk(tree):
                if isinstance(node, ast.Import):
                    self.assertEqual([path.stem, node.names[0].name], ["__main__", "sys"])
                if isinstance(node, ast.ImportFrom):
                    self.assertEqual(node.level, 0, path)
                    own = node.module.startswith("failsalike.")
                    self.assertTrue(own or node.module in LIBRARY, (path, node.module))

    def test_builtins(self):
        barred = [name for name in vars(builtins) if name not in BUILTINS and name != "_"]
        for path, tree in trees():
            for node in ast.walk(tree):
                if isinstance(node, ast.Name):
                    self.assertNotIn(node.id, barred + ["__debug__"], (path, node.lineno))
                if isinstance(node, ast.arg):
                    self.assertNotIn(node.arg, vars(builtins), (path, node.lineno))

    def test_no_floats_and_no_other_statements(self):
        barred = (ast.Div, ast.Global, ast.AsyncFunctionDef, ast.Await)
        for path, tree in trees():
            for node in ast.walk(tree):
                self.assertNotIsInstance(node, barred, path)
                if isinstance(node, ast.Constant):
                    self.assertNotIsInstance(node.value, (float, complex), path)

    def test_methods_are_those_of_values_or_own_ones(self):
        own = [node.name for _, tree in trees() for _, node in functions(tree)]
        for path, tree in trees():
            for node in ast.walk(tree):
                if isinstance(node, ast.Call) and isinstance(node.func, ast.Attribute):
                    self.assertIn(node.func.attr, OF_VALUES + own, (path, node.lineno))

    def test_no_local_name_is_that_of_a_class_or_an_import(self):
        for path, tree in trees():
            barred = [node.name for node in tree.body if isinstance(node, ast.ClassDef)]
            barred += [name.name for node in tree.body if isinstance(node, ast.ImportFrom) for name in node.names]
            for node in ast.walk(tree):
                if isinstance(node, ast.Name) and isinstance(node.ctx, ast.Store):
                    self.assertNotIn(node.id, barred, (path, node.lineno))
                if isinstance(node, ast.arg):
                    self.assertNotIn(node.arg, barred, (path, node.lineno))

    def test_no_attribute_is_called_like_a_method(self):
        methods = [node.name for _, tree in trees() for name, node in functions(tree) if name is not None]
        for path, tree in trees():
            for node in ast.walk(tree):
                if isinstance(node, ast.Attribute) and isinstance(node.ctx, ast.Store):
                    self.assertNotIn(node.attr, methods + OF_VALUES, (path, node.lineno))

    def test_tables_at_module_level_are_not_passed_on(self):
        for path, tree in trees():
            tables = []
            for node in tree.body:
                if isinstance(node, ast.Assign) and isinstance(node.value, (ast.Dict, ast.List)):
                    tables.append(node.targets[0].id)
            for node in ast.walk(tree):
                if isinstance(node, ast.Call) and getattr(node.func, "id", "") not in BUILTINS:
                    for given in node.args + [keyword.value for keyword in node.keywords]:
                        self.assertNotIn(getattr(given, "id", None), tables, (path, node.lineno))

    def test_words(self):
        for path, tree in trees():
            for node in ast.walk(tree):
                for name in ("id", "attr", "arg", "name"):
                    self.assertNotIn(getattr(node, name, None), BARRED, path)

    def test_strings(self):
        for path, tree in trees():
            for node in ast.walk(tree):
                if isinstance(node, ast.Constant) and isinstance(node.value, str):
                    self.assertNotIn("%", node.value, (path, node.lineno))

    def test_generators_have_names_of_their_own(self):
        names = [node.name for _, tree in trees() for _, node in functions(tree)]
        for path, tree in trees():
            for _, node in functions(tree):
                if any(isinstance(below, (ast.Yield, ast.YieldFrom)) for below in ast.walk(node)):
                    self.assertEqual(names.count(node.name), 1, (path, node.name))

    def test_no_two_files_import_from_each_other(self):
        imports = {}
        for path, tree in trees():
            froms = [node.module for node in tree.body if isinstance(node, ast.ImportFrom)]
            imports[path.stem] = [module.split(".")[1] for module in froms if module.startswith("failsalike.")]
        for file in imports:
            reached = list(imports[file])
            for other in reached:
                reached += [further for further in imports[other] if further not in reached]
            self.assertNotIn(file, reached)

    def test_imports_are_used(self):
        for path, tree in trees():
            used = [node.id for node in ast.walk(tree) if isinstance(node, ast.Name)]
            for node in tree.body:
                if isinstance(node, ast.ImportFrom):
                    for name in node.names:
                        self.assertIn(name.name, used, path)

    def test_the_classes_of_the_interface_define_their_methods(self):
        for file, classes in METHODS.items():
            tree = ast.parse((PACKAGE / f"{file}.py").read_text("utf-8"))
            for name, methods in classes.items():
                [body] = [node.body for node in tree.body if isinstance(node, ast.ClassDef) and node.name == name]
                defined = [node.name for node in body if isinstance(node, ast.FunctionDef)]
                for method in methods.split():
                    self.assertEqual(defined.count(method), 1, (name, method))

    def test_the_interface_is_defined_in_its_files(self):
        for file, names in INTERFACE.items():
            tree = ast.parse((PACKAGE / f"{file}.py").read_text("utf-8"))
            defined = [node.name for node in tree.body if isinstance(node, (ast.FunctionDef, ast.ClassDef))]
            defined += [node.targets[0].id for node in tree.body if isinstance(node, ast.Assign)]
            for name in names.split():
                self.assertEqual(defined.count(name), 1, (file, name))
