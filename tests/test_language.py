"""The package keeps to its small part of Python: the rules that can be seen in the files' text and trees."""

import ast
import builtins
import pathlib
import re
import unittest

PACKAGE = pathlib.Path(__file__).resolve().parent.parent / "wirestream"

ALLOWED_BUILTINS = set(
    """len range enumerate zip min max sum abs sorted reversed int str bool list tuple dict set frozenset
    isinstance ord repr any all divmod Exception ValueError TypeError KeyError IndexError LookupError
    ZeroDivisionError ArithmeticError OverflowError RuntimeError NotImplementedError AttributeError
    StopIteration""".split()
)

ALLOWED_NODES = set(
    """Module FunctionDef ClassDef arguments arg Lambda
    Assign AugAssign If While For Return Break Continue Pass Raise Try ExceptHandler Expr ImportFrom alias
    Constant List Tuple Dict Set Name Attribute Subscript Slice Call keyword
    BinOp UnaryOp BoolOp Compare IfExp ListComp comprehension JoinedStr FormattedValue
    Add Sub Mult FloorDiv Mod Pow BitAnd BitOr BitXor LShift RShift Invert USub UAdd Not And Or
    Eq NotEq Lt LtE Gt GtE In NotIn Is IsNot Load Store""".split()
)

BANNED_WORDS = re.compile(
    r"\b(type|typing|typing_extensions|enum|Enum|IntEnum|StrEnum|Flag|IntFlag|Generic|Protocol|ABC|ABCMeta"
    r"|namedtuple|NamedTuple|TypedDict|TYPE_CHECKING|abstractmethod)\b|dataclass|overload|contextmanager"
)

METHODS_WITH_UNDERSCORES = ("__init__", "__eq__", "__repr__", "__str__", "__len__")


def files():
    return sorted(path for path in PACKAGE.rglob("*") if path.is_file() and "__pycache__" not in path.parts)


def trees():
    return [(path.name, ast.parse(path.read_text("ascii"))) for path in files()]


def nodes(*kinds):
    return [(name, node) for name, tree in trees() for node in ast.walk(tree) if isinstance(node, kinds)]


def bound_names(tree):
    for node in ast.walk(tree):
        if isinstance(node, (ast.FunctionDef, ast.ClassDef)):
            yield node.name
        elif isinstance(node, ast.arg):
            yield node.arg
        elif isinstance(node, ast.Name) and isinstance(node.ctx, ast.Store):
            yield node.id


def is_docstring(node):
    return isinstance(node, ast.Expr) and isinstance(node.value, ast.Constant) and isinstance(node.value.value, str)


class LanguageTest(unittest.TestCase):
    def test_files_have_plain_names_and_the_package_has_its_first_one(self):
        names = [path.name for path in files()]
        self.assertIn("__init__.py", names)
        for name in names:
            self.assertRegex(name, r"^(__init__|[a-z][a-z0-9_]*)\.py$")
            self.assertNotIn(name[:-3], dir(builtins))

    def test_signs_and_sizes(self):
        for path in files():
            text = path.read_text("ascii")
            self.assertRegex(text, r"\A[\n -~]*\Z", path.name)
            self.assertLessEqual(len(text.splitlines()), 400, path.name)
            for line in text.splitlines():
                self.assertLessEqual(len(line), 120, path.name)
        for name, node in nodes(ast.FunctionDef):
            self.assertLessEqual(node.end_lineno - node.lineno + 1, 40, f"{name}: {node.name}")

    def test_banned_words(self):
        for path in files():
            self.assertIsNone(BANNED_WORDS.search(path.read_text("ascii")), path.name)

    def test_only_allowed_forms(self):
        for name, node in nodes(ast.AST):
            self.assertIn(node.__class__.__name__, ALLOWED_NODES, f"{name}: {getattr(node, 'lineno', '')}")

    def test_the_tops_of_files(self):
        for name, tree in trees():
            for place, node in enumerate(tree.body):
                allowed = isinstance(node, (ast.ImportFrom, ast.FunctionDef, ast.ClassDef, ast.Assign))
                self.assertTrue(allowed or (place == 0 and is_docstring(node)), f"{name}: {node.lineno}")

    def test_only_calls_stand_by_themselves(self):
        for name, tree in trees():
            for node in ast.walk(tree):
                if isinstance(node, ast.Expr) and node is not tree.body[0]:
                    self.assertIsInstance(node.value, ast.Call, f"{name}: {node.lineno}")

    def test_imports_are_of_the_packages_own_files_by_their_full_names(self):
        stems = {path.stem for path in files()} - {"__init__"}
        for name, node in nodes(ast.ImportFrom):
            self.assertEqual(node.level, 0)
            package, dot, stem = node.module.partition(".")
            self.assertEqual(package, "wirestream", name)
            self.assertIn(stem, stems, name)
            self.assertNotIn("*", [alias.name for alias in node.names])

    def test_only_allowed_names_of_pythons_own_are_used_and_none_is_bound(self):
        own = set(dir(builtins))
        for name, node in nodes(ast.Name):
            if node.id in own:
                self.assertIn(node.id, ALLOWED_BUILTINS, f"{name}: {node.lineno}")
        for name, tree in trees():
            for bound in bound_names(tree):
                if bound not in METHODS_WITH_UNDERSCORES:
                    self.assertRegex(bound, r"^[A-Za-z][A-Za-z0-9_]*$", name)
                self.assertNotIn(bound, own, name)

    def test_functions_are_plain(self):
        for name, node in nodes(ast.FunctionDef):
            spot = f"{name}: {node.name}"
            self.assertEqual(node.decorator_list, [], spot)
            self.assertIsNone(node.args.vararg, spot)
            self.assertIsNone(node.args.kwarg, spot)
            self.assertEqual(node.args.kwonlyargs + node.args.posonlyargs, [], spot)

    def test_classes_are_plain(self):
        for name, node in nodes(ast.ClassDef):
            spot = f"{name}: {node.name}"
            self.assertEqual(node.decorator_list, [], spot)
            self.assertLessEqual(len(node.bases), 1, spot)
            self.assertEqual(node.keywords, [], spot)
            for inner in node.body:
                self.assertIsInstance(inner, (ast.FunctionDef, ast.Pass), spot)

    def test_assignments_loops_and_comprehensions(self):
        for name, node in nodes(ast.Assign):
            self.assertEqual(len(node.targets), 1, f"{name}: {node.lineno}")
        for name, node in nodes(ast.For, ast.While):
            self.assertEqual(node.orelse, [], f"{name}: {node.lineno}")
        for name, node in nodes(ast.Try):
            self.assertEqual(node.finalbody, [], f"{name}: {node.lineno}")
        for name, node in nodes(ast.ListComp):
            self.assertEqual(len(node.generators), 1, f"{name}: {node.lineno}")
            self.assertLessEqual(len(node.generators[0].ifs), 1, f"{name}: {node.lineno}")

    def test_values_are_of_the_kinds_that_are_there(self):
        for name, node in nodes(ast.Constant):
            self.assertTrue(node.value is None or isinstance(node.value, (bool, int, str)), f"{name}: {node.lineno}")
            if isinstance(node.value, str):
                self.assertNotIn("%", node.value, f"{name}: {node.lineno}")


if __name__ == "__main__":
    unittest.main()
