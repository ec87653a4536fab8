"""The rules of the language that a machine can see at once: files, signs, sizes, words, names, imports, statements."""

import ast
import builtins
import pathlib
import re
import unittest

PACKAGE = pathlib.Path(__file__).resolve().parent.parent / "chessclock"
WORDS = (
    "type typing typing_extensions enum Enum IntEnum StrEnum Flag IntFlag Generic Protocol ABC ABCMeta namedtuple "
    "NamedTuple TypedDict TYPE_CHECKING abstractmethod"
).split()
PARTS = ("dataclass", "overload", "contextmanager")
FORBIDDEN = (
    ast.With, ast.Match, ast.Delete, ast.Global, ast.Nonlocal, ast.Assert, ast.Yield, ast.YieldFrom,
    ast.AsyncFunctionDef, ast.AsyncFor, ast.AsyncWith, ast.Await, ast.Import, ast.SetComp, ast.DictComp,
    ast.GeneratorExp, ast.NamedExpr, ast.Starred, ast.Div, ast.MatMult,
)
METHODS = ("__init__", "__eq__", "__repr__", "__str__", "__len__")
TAKEN = {name for kind in (str, int, list, dict, set, bytes) for name in dir(kind)}


def files():
    return sorted(path for path in PACKAGE.iterdir() if path.name != "__pycache__")


def trees():
    return [(path.name, ast.parse(path.read_text("utf-8"))) for path in files()]


def nodes(kind):
    return [(name, node) for name, tree in trees() for node in ast.walk(tree) if isinstance(node, kind)]


def bound_names():
    bound = [(name, node.id) for name, node in nodes(ast.Name) if isinstance(node.ctx, ast.Store)]
    return bound + [(name, node.arg) for name, node in nodes(ast.arg)]


def methods():
    return [part.name for _, node in nodes(ast.ClassDef) for part in node.body if isinstance(part, ast.FunctionDef)]


def object_values():
    return [node.attr for _, node in nodes(ast.Attribute) if isinstance(node.ctx, ast.Store)]


class FormTest(unittest.TestCase):
    def test_only_plainly_named_python_files_lie_in_the_package(self):
        self.assertIn("__init__.py", [path.name for path in files()])
        for path in files():
            self.assertRegex(path.name, r"\A[a-z0-9_]+\.py\Z")

    def test_signs_and_sizes(self):
        for path in files():
            text = path.read_bytes().decode("ascii")
            self.assertRegex(text, r"\A[ -~\n]*\Z", path.name)
            rows = text.splitlines()
            self.assertLessEqual(len(rows), 400, path.name)
            self.assertLessEqual(max(map(len, rows), default=0), 120, path.name)

    def test_words_that_stand_nowhere(self):
        for path in files():
            text = path.read_text("utf-8")
            self.assertEqual([word for word in re.findall(r"\w+", text) if word in WORDS], [], path.name)
            self.assertEqual([part for part in PARTS if part in text], [], path.name)

    def test_statements_and_expressions(self):
        for name, tree in trees():
            for node in ast.walk(tree):
                self.assertNotIsInstance(node, FORBIDDEN, name)
                if isinstance(node, ast.Try):
                    self.assertEqual(node.finalbody, [], name)
                if isinstance(node, (ast.For, ast.While)):
                    self.assertEqual(node.orelse, [], name)
                if isinstance(node, ast.Assign):
                    self.assertEqual(len(node.targets), 1, name)
                if isinstance(node, ast.Constant):
                    self.assertNotIsInstance(node.value, (float, complex, bytes), name)

    def test_imports_are_of_the_package_alone(self):
        for name, tree in trees():
            for node in ast.walk(tree):
                if isinstance(node, ast.ImportFrom):
                    self.assertEqual(node.level, 0, name)
                    self.assertRegex(node.module, r"\Achessclock\.\w+\Z", name)
                    self.assertNotIn("*", [alias.name for alias in node.names], name)

    def test_functions_and_classes(self):
        for name, tree in trees():
            for node in ast.walk(tree):
                if isinstance(node, ast.FunctionDef):
                    self.assertLessEqual(node.end_lineno - node.lineno + 1, 40, f"{name}: {node.name}")
                    self.assertTrue(node.name in METHODS or not node.name.startswith("_"), f"{name}: {node.name}")
                if isinstance(node, (ast.FunctionDef, ast.ClassDef)):
                    self.assertEqual(node.decorator_list, [], f"{name}: {node.name}")

    def test_a_class_has_methods_alone_and_one_base_at_most(self):
        for name, node in nodes(ast.ClassDef):
            self.assertLessEqual(len(node.bases), 1, f"{name}: {node.name}")
            self.assertEqual(node.keywords, [], f"{name}: {node.name}")
            names = [part.name for part in node.body if isinstance(part, ast.FunctionDef)]
            self.assertEqual(len(names), len(set(names)), f"{name}: {node.name}")
            for part in node.body:
                self.assertIsInstance(part, (ast.FunctionDef, ast.Pass), f"{name}: {node.name}")

    def test_no_name_is_a_method_and_a_value_or_one_of_python_s_own_values(self):
        self.assertEqual(set(methods()) & set(object_values()), set())
        own = set(methods()) - set(METHODS) | set(object_values())
        self.assertEqual(own & TAKEN, set())

    def test_names_are_plain_and_none_of_python_s_own(self):
        for name, bound in bound_names():
            self.assertRegex(bound, r"\A[A-Za-z][A-Za-z0-9_]*\Z", name)
            self.assertFalse(hasattr(builtins, bound), f"{name}: {bound}")

    def test_parameters_are_plain(self):
        for name, node in nodes(ast.arguments):
            self.assertEqual([node.vararg, node.kwarg, node.kwonlyargs, node.posonlyargs], [None, None, [], []], name)

    def test_is_stands_beside_none_true_and_false_alone(self):
        for name, node in nodes(ast.Compare):
            if any(isinstance(sign, (ast.Is, ast.IsNot)) for sign in node.ops):
                self.assertIsInstance(node.comparators[-1], ast.Constant, name)
                self.assertIn(node.comparators[-1].value, (None, True, False), name)

    def test_what_stands_by_itself_is_a_call(self):
        for name, tree in trees():
            rows = [node for node in ast.walk(tree) if isinstance(node, ast.Expr) and node != tree.body[0]]
            for node in rows:
                self.assertIsInstance(node.value, ast.Call, name)


if __name__ == "__main__":
    unittest.main()
