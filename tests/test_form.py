"""The form of the package's own files, as far as a few rules of the language can be looked at."""

import ast
import pathlib
import re
import unittest

PACKAGE = pathlib.Path(__file__).resolve().parent.parent / "turnvotes"

ALLOWED_NAMES = set("""
    len range enumerate zip min max sum abs sorted reversed int str bool list tuple dict set frozenset
    isinstance ord repr any all divmod Exception ValueError TypeError KeyError IndexError LookupError
    ZeroDivisionError ArithmeticError OverflowError RuntimeError NotImplementedError AttributeError
    StopIteration
""".split())

FORBIDDEN_WORDS = set("""
    type typing typing_extensions enum Enum IntEnum StrEnum Flag IntFlag Generic Protocol ABC ABCMeta
    namedtuple NamedTuple TypedDict TYPE_CHECKING abstractmethod
""".split())

WALKED_AT_ONCE = ("range", "zip", "enumerate", "reversed")
WALKERS = ("list", "tuple", "dict", "sorted", "sum", "any", "all", "enumerate", "zip", "min", "max")

FORBIDDEN_STEPS = (ast.With, ast.Match, ast.Delete, ast.Global, ast.Nonlocal, ast.Assert, ast.Yield,
                   ast.YieldFrom, ast.AsyncFunctionDef, ast.Await, ast.SetComp, ast.DictComp,
                   ast.GeneratorExp, ast.NamedExpr, ast.Starred, ast.Div, ast.Set, ast.AnnAssign)

ALLOWED_AT_TOP = (ast.ImportFrom, ast.FunctionDef, ast.ClassDef, ast.Assign, ast.Expr)


def files():
    return sorted(PACKAGE.rglob("*.py"))


def names_bound(tree):
    """Every name that the file binds somewhere."""
    bound = set()
    for node in ast.walk(tree):
        if isinstance(node, ast.Name) and isinstance(node.ctx, ast.Store):
            bound.add(node.id)
        elif isinstance(node, (ast.FunctionDef, ast.ClassDef)):
            bound.add(node.name)
        elif isinstance(node, ast.arg):
            bound.add(node.arg)
        elif isinstance(node, ast.alias):
            bound.add(node.asname or node.name)
    return bound


def trees():
    return [(file.name, ast.parse(file.read_text(encoding="utf-8"))) for file in files()]


class FormTest(unittest.TestCase):
    def test_nothing_but_plainly_named_files(self):
        self.assertIn(PACKAGE / "__init__.py", files())
        for file in PACKAGE.rglob("*"):
            if "__pycache__" not in file.parts:
                self.assertRegex(file.name, r"\A[a-z0-9_]+\.py\Z")

    def test_sizes_and_signs(self):
        for file in files():
            text = file.read_text(encoding="utf-8")
            with self.subTest(file=file.name):
                self.assertLessEqual(len(text.split("\n")), 399)
                self.assertLessEqual(max(len(row) for row in text.split("\n")), 120)
                self.assertNotRegex(text, r"[^ -~\n]")
                words = set(re.findall(r"\w+", text))
                self.assertEqual(words & FORBIDDEN_WORDS, set())
                self.assertNotRegex(text, "dataclass|overload|contextmanager")

    def test_functions_are_short(self):
        for name, tree in trees():
            for node in ast.walk(tree):
                if isinstance(node, ast.FunctionDef):
                    self.assertLessEqual(node.end_lineno - node.lineno + 1, 40, (name, node.name))

    def test_the_top_of_a_file(self):
        for name, tree in trees():
            self.assertIsNotNone(ast.get_docstring(tree), name)
            for node in tree.body:
                self.assertIsInstance(node, ALLOWED_AT_TOP, name)

    def test_imports_are_the_packages_own(self):
        for name, tree in trees():
            for node in ast.walk(tree):
                self.assertNotIsInstance(node, ast.Import, name)
                if isinstance(node, ast.ImportFrom):
                    self.assertIn(node, tree.body, name)
                    self.assertEqual(node.level, 0, name)
                    self.assertRegex(node.module, r"\Aturnvotes\.\w+\Z", name)
                    self.assertNotIn("*", [alias.name for alias in node.names], name)

    def test_steps_outside_the_language(self):
        for name, tree in trees():
            for node in ast.walk(tree):
                self.assertNotIsInstance(node, FORBIDDEN_STEPS, name)
                if isinstance(node, (ast.For, ast.While)):
                    self.assertEqual(node.orelse, [], name)
                if isinstance(node, ast.Assign):
                    self.assertEqual(len(node.targets), 1, name)
                if isinstance(node, ast.ListComp):
                    self.assertEqual(len(node.generators), 1, name)
                    self.assertLessEqual(len(node.generators[0].ifs), 1, name)

    def test_what_is_walked_at_once_is_not_kept(self):
        for name, tree in trees():
            walked = set()
            for node in ast.walk(tree):
                if isinstance(node, (ast.For, ast.comprehension)):
                    walked.add(node.iter)
                elif isinstance(node, ast.Call) and isinstance(node.func, ast.Name) and node.func.id in WALKERS:
                    walked.update(node.args)
            for node in ast.walk(tree):
                if isinstance(node, ast.Call) and isinstance(node.func, ast.Name):
                    if node.func.id in WALKED_AT_ONCE:
                        self.assertIn(node, walked, (name, node.lineno))

    def test_names_are_own_or_allowed(self):
        for name, tree in trees():
            bound = names_bound(tree)
            self.assertEqual(bound & ALLOWED_NAMES, set(), name)
            used = {node.id for node in ast.walk(tree) if isinstance(node, ast.Name)}
            self.assertEqual(used - bound - ALLOWED_NAMES, set(), name)


if __name__ == "__main__":
    unittest.main()
