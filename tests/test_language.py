"""The package keeps to its subset of Python, as far as its files show it."""

import ast
import builtins
import re
import unittest
import warnings
from pathlib import Path

FOLDER = Path(__file__).resolve().parent.parent / "steprows"
FILES = sorted(path for path in FOLDER.rglob("*") if path.is_file() and "__pycache__" not in path.parts)
LIBRARY = {"math": {"gcd", "lcm", "isqrt", "comb", "perm", "factorial"}}
BUILTINS = set(
    "len range enumerate zip min max sum abs sorted reversed int str bool bytes list tuple dict set isinstance ord "
    "repr any all divmod iter next ValueError NotImplemented property classmethod staticmethod super".split()
)
METHODS = {
    "__init__", "__eq__", "__len__", "__iter__", "__contains__", "__getitem__", "__bool__", "__neg__", "__add__",
    "__sub__", "__mul__", "__radd__", "__rsub__", "__rmul__", "__call__", "__enter__", "__exit__",
}
NODES = (
    ast.AsyncFunctionDef, ast.Await, ast.Global, ast.GeneratorExp, ast.Div, ast.Lambda, ast.AnnAssign, ast.Import,
    ast.SetComp, ast.Set, ast.NamedExpr, ast.Delete, ast.Match, ast.Nonlocal, ast.Assert, ast.YieldFrom,
)
PLAIN_BUILTINS = (int, str, bytes, bool)
WORDS = r"\b(type|typing|enum|Enum|Flag|Generic|ABC|namedtuple|open|input|law|register|elements|mro)\b"


def bound_names(function):
    """The parameters and the names that a function assigns."""
    names = [argument.arg for argument in ast.walk(function) if isinstance(argument, ast.arg)]
    return names + [
        node.id for node in ast.walk(function) if isinstance(node, ast.Name) and isinstance(node.ctx, ast.Store)
    ]


class TestLanguage(unittest.TestCase):

    def setUp(self):
        self.texts = {path: path.read_text() for path in FILES}
        self.trees = {path: ast.parse(text) for path, text in self.texts.items()}

    def nodes(self, *kinds):
        for path, tree in self.trees.items():
            for node in ast.walk(tree):
                if isinstance(node, kinds):
                    yield path.name, node

    def test_files(self):
        self.assertTrue(FILES)
        for path, text in self.texts.items():
            self.assertEqual((path.suffix, path.parent), (".py", FOLDER))
            self.assertTrue(all(sign == "\n" or " " <= sign <= "~" for sign in text), path.name)
            lines = text.split("\n")
            self.assertLessEqual(len(lines), 399, path.name)
            self.assertLessEqual(max(len(line) for line in lines), 120, path.name)
            self.assertNotIn("metaclass=", text)
            self.assertNotIn("(type)", text)

    def test_no_barred_nodes(self):
        for name, node in self.nodes(*NODES):
            self.fail(f"{name}:{node.lineno} {node}")
        for name, node in self.nodes(ast.Constant):
            self.assertNotIsInstance(node.value, (float, complex), name)
        for name, node in self.nodes(ast.Name):
            self.assertIsNone(re.search(WORDS, node.id), (name, node.lineno))

    def test_functions_are_small(self):
        for name, node in self.nodes(ast.FunctionDef):
            self.assertLessEqual(node.end_lineno - node.lineno + 1, 40, (name, node.name))

    def test_imports(self):
        after = {}
        for name, node in self.nodes(ast.ImportFrom):
            self.assertEqual(node.level, 0)
            if node.module in LIBRARY:
                self.assertLessEqual({alias.name for alias in node.names}, LIBRARY[node.module])
                continue
            package, module = node.module.split(".")
            self.assertEqual(package, "steprows")
            defined = {
                thing.name for thing in self.trees[FOLDER / f"{module}.py"].body
                if isinstance(thing, (ast.FunctionDef, ast.ClassDef))
            }
            self.assertLessEqual({alias.name for alias in node.names}, defined, (name, module))
            after.setdefault(name, set()).add(f"{module}.py")
        while after:
            free = [name for name in after if not after[name] & set(after)]
            self.assertTrue(free, f"imports in a circle: {sorted(after)}")
            after = {name: after[name] for name in after if name not in free}

    def test_every_import_is_used(self):
        for path, tree in self.trees.items():
            used = {node.id for node in ast.walk(tree) if isinstance(node, ast.Name)}
            for node in ast.walk(tree):
                if isinstance(node, ast.ImportFrom):
                    for alias in node.names:
                        self.assertIn(alias.name, used, path.name)

    def test_names(self):
        for path, tree in self.trees.items():
            taken = {alias.name for node in ast.walk(tree) if isinstance(node, ast.ImportFrom) for alias in node.names}
            taken |= {node.name for node in ast.walk(tree) if isinstance(node, ast.ClassDef)}
            taken |= {node.name for node in tree.body if isinstance(node, ast.FunctionDef)}
            for node in ast.walk(tree):
                if isinstance(node, ast.FunctionDef):
                    for bound in bound_names(node):
                        self.assertNotIn(bound, taken, (path.name, node.name))
                        self.assertFalse(hasattr(builtins, bound), (path.name, node.name, bound))

    def test_builtins(self):
        for path, tree in self.trees.items():
            for node in ast.walk(tree):
                if isinstance(node, ast.Name) and isinstance(node.ctx, ast.Load) and hasattr(builtins, node.id):
                    self.assertIn(node.id, BUILTINS, (path.name, node.lineno))

    def test_double_underscore_methods(self):
        for name, node in self.nodes(ast.FunctionDef):
            if node.name.startswith("__"):
                self.assertIn(node.name, METHODS, name)

    def test_module_level(self):
        for path, tree in self.trees.items():
            for node in tree.body:
                if isinstance(node, ast.Assign):
                    self.check_plain_value(node)
                    continue
                docstring = isinstance(node, ast.Expr) and isinstance(node.value, ast.Constant)
                self.assertTrue(docstring or isinstance(node, (ast.ImportFrom, ast.FunctionDef, ast.ClassDef)), path)

    def check_plain_value(self, node):
        self.assertEqual([target.__class__ for target in node.targets], [ast.Name])
        value = ast.literal_eval(node.value)
        for one in [*value, *value.values()] if isinstance(value, dict) else [value]:
            self.assertIsInstance(one, PLAIN_BUILTINS)

    def test_only_own_errors_are_caught(self):
        own = {node.name for node in self.trees[FOLDER / "errors.py"].body if isinstance(node, ast.ClassDef)}
        for name, node in self.nodes(ast.Try):
            self.assertEqual((node.orelse, node.finalbody), ([], []), name)
            for handler in node.handlers:
                caught = handler.type.elts if isinstance(handler.type, ast.Tuple) else [handler.type]
                self.assertLessEqual({one.id for one in caught}, own - {"StepError"}, (name, handler.lineno))
        for name, node in self.nodes(ast.Raise):
            self.assertIsInstance(node.exc, ast.Call, (name, node.lineno))
            self.assertIn(node.exc.func.id, own, (name, node.lineno))

    def test_with_takes_trials_only(self):
        for name, node in self.nodes(ast.With):
            self.assertEqual([ast.unparse(item) for item in node.items], ["self.trial() as room"], name)

    def test_leaving_a_trial_only_assigns(self):
        for name, node in self.nodes(ast.FunctionDef):
            if node.name == "__exit__":
                self.assertTrue(all(isinstance(row, ast.Assign) for row in node.body), name)

    def test_is_only_with_constants(self):
        for name, node in self.nodes(ast.Compare):
            for sign, side in zip(node.ops, node.comparators):
                if isinstance(sign, (ast.Is, ast.IsNot)):
                    self.assertIsInstance(side, ast.Constant, (name, node.lineno))

    def test_interpreters_warn_of_nothing(self):
        for path, text in self.texts.items():
            with warnings.catch_warnings():
                warnings.simplefilter("error")
                compile(text, path.name, "exec")

    def test_sums_in_place_only_of_literals(self):
        for name, node in self.nodes(ast.AugAssign):
            self.assertIsInstance(node.op, (ast.Add, ast.Sub), (name, node.lineno))
            self.assertIsInstance(node.value, ast.Constant, (name, node.lineno))

    def test_annotations_and_strings(self):
        for name, node in self.nodes(ast.FunctionDef):
            self.assertIsNone(node.returns, (name, node.name))
        for name, node in self.nodes(ast.arg):
            self.assertIsNone(node.annotation, name)
        for name, node in self.nodes(ast.Constant):
            if isinstance(node.value, str):
                self.assertNotIn("%", node.value, name)
