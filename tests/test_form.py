"""The package's files keep to the small part of Python that they are written in (the rules that can be seen)."""

import ast
import builtins
import re
import unittest
from pathlib import Path

ROOT = Path(__file__).resolve().parent.parent
PACKAGE = ROOT / "stagelamps"
FILES = sorted(PACKAGE.rglob("*.py"))

NODES = (
    ast.Module, ast.ImportFrom, ast.alias, ast.FunctionDef, ast.arguments, ast.arg, ast.ClassDef, ast.Lambda,
    ast.Assign, ast.AugAssign, ast.If, ast.While, ast.For, ast.Return, ast.Break, ast.Continue, ast.Pass, ast.Raise,
    ast.Try, ast.ExceptHandler, ast.Expr, ast.Constant, ast.Name, ast.List, ast.Tuple, ast.Dict, ast.BinOp,
    ast.UnaryOp, ast.BoolOp, ast.Compare, ast.IfExp, ast.Call, ast.keyword, ast.Attribute, ast.Subscript, ast.Slice,
    ast.ListComp, ast.comprehension, ast.JoinedStr, ast.FormattedValue, ast.expr_context, ast.boolop, ast.operator,
    ast.unaryop, ast.cmpop,
)
OWN_NAMES_OF_PYTHON = set(
    "len range enumerate zip min max sum abs sorted reversed int str bool list tuple dict set frozenset isinstance ord "
    "repr any all divmod Exception ValueError TypeError KeyError IndexError LookupError ZeroDivisionError "
    "ArithmeticError OverflowError RuntimeError NotImplementedError AttributeError StopIteration".split()
)
METHODS = set(
    "append clear copy count endswith extend find get index insert isalnum isalpha isdigit islower isspace isupper "
    "items join keys ljust lower lstrip partition pop remove replace reverse rfind rjust rpartition rsplit rstrip "
    "setdefault split splitlines startswith strip update upper values zfill bit_length".split()
)
WORDS = (
    r"\b(type|typing|typing_extensions|enum|Enum|IntEnum|StrEnum|Flag|IntFlag|Generic|Protocol|ABC|ABCMeta|namedtuple|"
    r"NamedTuple|TypedDict|TYPE_CHECKING|abstractmethod)\b|dataclass|overload|contextmanager"
)
WALKED_IN = {"list", "tuple", "dict", "sorted", "sum", "any", "all", "enumerate", "zip", "min", "max"}
WALKED_AT_ONCE = {"zip", "enumerate", "reversed", "range"}


def tree_of(path):
    return ast.parse(path.read_text("ascii"))


def all_nodes():
    return [(path, node) for path in FILES for node in ast.walk(tree_of(path))]


def defined_methods():
    classes = [node for path, node in all_nodes() if isinstance(node, ast.ClassDef)]
    return [part.name for each in classes for part in each.body if isinstance(part, ast.FunctionDef)]


def stored_values():
    return {
        node.attr for path, node in all_nodes() if isinstance(node, ast.Attribute) and isinstance(node.ctx, ast.Store)
    }


def bound_names(tree):
    names = []
    for node in ast.walk(tree):
        if isinstance(node, ast.Name) and isinstance(node.ctx, ast.Store):
            names.append(node.id)
        if isinstance(node, ast.arg):
            names.append(node.arg)
        if isinstance(node, (ast.FunctionDef, ast.ClassDef)):
            names.append(node.name)
        if isinstance(node, ast.ExceptHandler) and node.name:
            names.append(node.name)
    return names


def drawn_from(path):
    """The files that one draws from, itself or through others."""
    reached = []
    waiting = [path]
    while waiting:
        for node in ast.walk(tree_of(waiting.pop())):
            if isinstance(node, ast.ImportFrom):
                other = ROOT / (node.module.replace(".", "/") + ".py")
                if other not in reached:
                    reached.append(other)
                    waiting.append(other)
    return reached


def called(node):
    return node.func.id if isinstance(node, ast.Call) and isinstance(node.func, ast.Name) else None


def walked_places(tree):
    """The places where something is walked on the spot."""
    places = [node.iter for node in ast.walk(tree) if isinstance(node, (ast.For, ast.comprehension))]
    for node in ast.walk(tree):
        if called(node) in WALKED_IN:
            places += node.args if called(node) == "zip" else node.args[:1]
    return places


class Form(unittest.TestCase):
    def test_files(self):
        kept = [path for path in PACKAGE.rglob("*") if "__pycache__" not in path.parts]
        self.assertEqual(sorted(kept), FILES)
        self.assertIn(PACKAGE / "__init__.py", FILES)
        for path in FILES:
            self.assertRegex(path.name, r"^[a-z0-9_]+\.py$")

    def test_signs_and_sizes(self):
        for path in FILES:
            text = path.read_bytes()
            self.assertTrue(all(sign == 10 or 32 <= sign <= 126 for sign in text), path)
            rows = text.decode("ascii").split("\n")
            self.assertLessEqual(len(rows), 400, path)
            self.assertLessEqual(max(len(row) for row in rows), 120, path)
            self.assertIsNone(re.search(WORDS, text.decode("ascii")), path)

    def test_functions(self):
        for path, node in all_nodes():
            if isinstance(node, ast.FunctionDef):
                self.assertLessEqual(node.end_lineno - node.lineno + 1, 40, (path, node.name))
                self.assertEqual(node.decorator_list, [])
                self.assertIsNone(node.args.vararg or node.args.kwarg)
                self.assertEqual(node.args.kwonlyargs + node.args.posonlyargs, [])

    def test_statements_and_expressions(self):
        for path, node in all_nodes():
            self.assertIsInstance(node, NODES, path)
            self.assertNotIsInstance(node, (ast.Div, ast.MatMult, ast.Starred), path)
            if isinstance(node, ast.Assign):
                self.assertEqual(len(node.targets), 1, (path, node.lineno))
            if isinstance(node, (ast.For, ast.While)):
                self.assertEqual(node.orelse, [], (path, node.lineno))
            if isinstance(node, ast.Try):
                self.assertEqual(node.finalbody, [], (path, node.lineno))
            if isinstance(node, ast.Constant):
                self.assertIn(type(node.value), (int, str, bool, type(None)), (path, node.lineno))

    def test_expressions_by_themselves_are_calls(self):
        for path in FILES:
            tree = tree_of(path)
            for node in ast.walk(tree):
                if isinstance(node, ast.Expr) and node is not tree.body[0]:
                    self.assertIsInstance(node.value, ast.Call, (path, node.lineno))

    def test_imports(self):
        for path, node in all_nodes():
            if isinstance(node, ast.ImportFrom):
                self.assertEqual(node.level, 0)
                self.assertTrue(node.module.startswith("stagelamps."), (path, node.module))
                defined = bound_names(tree_of(ROOT / (node.module.replace(".", "/") + ".py")))
                for alias in node.names:
                    self.assertIn(alias.name, defined, path)
                    self.assertIsNone(alias.asname)

    def test_no_two_files_draw_from_one_another(self):
        for path in FILES:
            self.assertNotIn(path, drawn_from(path))

    def test_a_name_is_bound_once_at_the_top(self):
        for path in FILES:
            tops = []
            for part in tree_of(path).body[1:]:
                self.assertIsInstance(part, (ast.ImportFrom, ast.FunctionDef, ast.ClassDef, ast.Assign), path)
                if isinstance(part, ast.ImportFrom):
                    tops += [alias.name for alias in part.names]
                elif isinstance(part, ast.Assign):
                    tops.append(part.targets[0].id)
                else:
                    tops.append(part.name)
            self.assertEqual(len(tops), len(set(tops)), path)

    def test_comprehensions_have_one_for_and_at_most_one_if(self):
        for path, node in all_nodes():
            if isinstance(node, ast.ListComp):
                self.assertEqual(len(node.generators), 1, (path, node.lineno))
                self.assertLessEqual(len(node.generators[0].ifs), 1, (path, node.lineno))

    def test_is_stands_beside_none_true_and_false_alone(self):
        for path, node in all_nodes():
            if isinstance(node, ast.Compare) and isinstance(node.ops[0], (ast.Is, ast.IsNot)):
                self.assertIn(ast.unparse(node.comparators[0]), ("None", "True", "False"), (path, node.lineno))

    def test_what_is_walked_is_walked_at_once(self):
        for path in FILES:
            tree = tree_of(path)
            walked = walked_places(tree)
            for node in ast.walk(tree):
                if called(node) in WALKED_AT_ONCE:
                    self.assertIn(node, walked, (path, node.lineno))

    def test_names(self):
        for path in FILES:
            for name in bound_names(tree_of(path)):
                if name not in ("__init__", "__eq__", "__repr__", "__str__", "__len__"):
                    self.assertRegex(name, r"^[A-Za-z][A-Za-z0-9_]*$", path)
                    self.assertFalse(hasattr(builtins, name), (path, name))

    def test_names_of_python(self):
        for path, node in all_nodes():
            if isinstance(node, ast.Name) and hasattr(builtins, node.id):
                self.assertIn(node.id, OWN_NAMES_OF_PYTHON, (path, node.lineno))

    def test_methods_and_values(self):
        methods = set(defined_methods())
        values = stored_values()
        self.assertEqual(methods & values, set())
        for name in (methods | values) - {"__init__"}:
            for kind in (str, int, list, dict, set, bytes):
                self.assertFalse(hasattr(kind, name), name)
        for path, node in all_nodes():
            if isinstance(node, ast.Call) and isinstance(node.func, ast.Attribute):
                self.assertIn(node.func.attr, METHODS | methods, (path, node.lineno))


if __name__ == "__main__":
    unittest.main()
