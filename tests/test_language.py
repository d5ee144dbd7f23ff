"""The package keeps to its small part of Python: the rules that can be seen in the files' text and trees."""

import ast
import builtins
import pathlib
import re
import unittest

PACKAGE = pathlib.Path(__file__).resolve().parent.parent / "wirestream"

ALLOWED_BUILTINS = set(
    """len range enumerate zip min max sum abs sorted reversed int str bool list tuple dict set frozenset
    isinstance ord repr any all divmod Exception ValueError TypeError KeyError IndexError LookupError
    ZeroDivisionError ArithmeticError OverflowError RuntimeError NotImplementedError AttributeError
    StopIteration""".split()
)

ALLOWED_NODES = set(
    """Module FunctionDef ClassDef arguments arg Lambda
    Assign AugAssign If While For Return Break Continue Pass Raise Try ExceptHandler Expr ImportFrom alias
    Constant List Tuple Dict Set Name Attribute Subscript Slice Call keyword
    BinOp UnaryOp BoolOp Compare IfExp ListComp comprehension JoinedStr FormattedValue
    Add Sub Mult FloorDiv Mod Pow BitAnd BitOr BitXor LShift RShift Invert USub UAdd Not And Or
    Eq NotEq Lt LtE Gt GtE In NotIn Is IsNot Load Store""".split()
)

BANNED_WORDS = re.compile(
    r"\b(type|typing|typing_extensions|enum|Enum|IntEnum|StrEnum|Flag|IntFlag|Generic|Protocol|ABC|ABCMeta"
    r"|namedtuple|NamedTuple|TypedDict|TYPE_CHECKING|abstractmethod)\b|dataclass|overload|contextmanager"
)

BANNED_NAMES = set(
    """register mro elements open input version_info with_traceback add_note attrgetter breakpoint builtins
    compile copyright credits delattr dir eval exec exit gc getattr globals hasattr help id importlib license
    locals methodcaller os quit setattr super type vars sys""".split()
)

ALLOWED_METHODS = set(
    """append clear copy count endswith extend find get index insert isalnum isalpha isdigit islower isspace
    isupper items join keys ljust lower lstrip partition pop remove replace reverse rfind rjust rpartition
    rsplit rstrip setdefault split splitlines startswith strip update upper values zfill bit_length""".split()
)

ALLOWED_VALUES = set("count index title find get join lower upper split strip copy add".split())

NAMES_OF_PYTHONS_VALUES = {
    name for kind in (str, int, list, tuple, dict, set, frozenset, bytes) for name in dir(kind)
} | {"args"}

METHODS_WITH_UNDERSCORES = ("__init__", "__eq__", "__repr__", "__str__", "__len__")


def files():
    return sorted(path for path in PACKAGE.rglob("*") if path.is_file() and "__pycache__" not in path.parts)


def trees():
    return [(path.name, ast.parse(path.read_text("ascii"))) for path in files()]


def nodes(*kinds):
    return [(name, node) for name, tree in trees() for node in ast.walk(tree) if isinstance(node, kinds)]


def bound_names(tree):
    for node in ast.walk(tree):
        if isinstance(node, (ast.FunctionDef, ast.ClassDef)):
            yield node.name
        elif isinstance(node, ast.arg):
            yield node.arg
        elif isinstance(node, ast.Name) and isinstance(node.ctx, ast.Store):
            yield node.id


def names_of_the_top(tree):
    """The names that are bound at a file's top, its imports among them, as often as they are."""
    found = []
    for node in tree.body:
        if isinstance(node, (ast.FunctionDef, ast.ClassDef)):
            found.append(node.name)
        elif isinstance(node, ast.Assign):
            found.append(node.targets[0].id)
        elif isinstance(node, ast.ImportFrom):
            found += [alias.asname or alias.name for alias in node.names]
    return found


def stems_drawn_from(tree):
    return {node.module.partition(".")[2] for node in tree.body if isinstance(node, ast.ImportFrom)}


def own_methods():
    return {inner.name for name, node in nodes(ast.ClassDef) for inner in node.body if isinstance(inner, ast.FunctionDef)}


def is_plain_value(node, functions):
    if isinstance(node, (ast.List, ast.Tuple)):
        return all(is_plain_value(inner, functions) for inner in node.elts)
    if isinstance(node, ast.Dict):
        return all(is_plain_value(inner, functions) for inner in node.keys + node.values)
    return isinstance(node, ast.Constant) or (isinstance(node, ast.Name) and node.id in functions)


def is_docstring(node):
    return isinstance(node, ast.Expr) and isinstance(node.value, ast.Constant) and isinstance(node.value.value, str)


class LanguageTest(unittest.TestCase):
    def test_files_have_plain_names_and_the_package_has_its_first_one(self):
        names = [path.name for path in files()]
        self.assertIn("__init__.py", names)
        for name in names:
            self.assertRegex(name, r"^(__init__|[a-z][a-z0-9_]*)\.py$")
            self.assertNotIn(name[:-3], dir(builtins))

    def test_signs_and_sizes(self):
        for path in files():
            text = path.read_text("ascii")
            self.assertRegex(text, r"\A[\n -~]*\Z", path.name)
            self.assertLessEqual(len(text.splitlines()), 400, path.name)
            for line in text.splitlines():
                self.assertLessEqual(len(line), 120, path.name)
        for name, node in nodes(ast.FunctionDef):
            self.assertLessEqual(node.end_lineno - node.lineno + 1, 40, f"{name}: {node.name}")

    def test_banned_words(self):
        for path in files():
            self.assertIsNone(BANNED_WORDS.search(path.read_text("ascii")), path.name)

    def test_only_allowed_forms(self):
        for name, node in nodes(ast.AST):
            self.assertIn(node.__class__.__name__, ALLOWED_NODES, f"{name}: {getattr(node, 'lineno', '')}")

    def test_the_tops_of_files(self):
        for name, tree in trees():
            for place, node in enumerate(tree.body):
                allowed = isinstance(node, (ast.ImportFrom, ast.FunctionDef, ast.ClassDef, ast.Assign))
                self.assertTrue(allowed or (place == 0 and is_docstring(node)), f"{name}: {node.lineno}")

    def test_only_calls_stand_by_themselves(self):
        for name, tree in trees():
            for node in ast.walk(tree):
                if isinstance(node, ast.Expr) and node is not tree.body[0]:
                    self.assertIsInstance(node.value, ast.Call, f"{name}: {node.lineno}")

    def test_imports_are_of_the_packages_own_files_by_their_full_names(self):
        stems = {path.stem for path in files()} - {"__init__"}
        for name, node in nodes(ast.ImportFrom):
            self.assertEqual(node.level, 0)
            package, dot, stem = node.module.partition(".")
            self.assertEqual(package, "wirestream", name)
            self.assertIn(stem, stems, name)
            self.assertNotIn("*", [alias.name for alias in node.names])

    def test_only_allowed_names_of_pythons_own_are_used_and_none_is_bound(self):
        own = set(dir(builtins))
        for name, node in nodes(ast.Name):
            if node.id in own:
                self.assertIn(node.id, ALLOWED_BUILTINS, f"{name}: {node.lineno}")
        for name, tree in trees():
            for bound in bound_names(tree):
                if bound not in METHODS_WITH_UNDERSCORES:
                    self.assertRegex(bound, r"^[A-Za-z][A-Za-z0-9_]*$", name)
                self.assertNotIn(bound, own, name)

    def test_functions_are_plain(self):
        for name, node in nodes(ast.FunctionDef):
            spot = f"{name}: {node.name}"
            self.assertEqual(node.decorator_list, [], spot)
            self.assertIsNone(node.args.vararg, spot)
            self.assertIsNone(node.args.kwarg, spot)
            self.assertEqual(node.args.kwonlyargs + node.args.posonlyargs, [], spot)

    def test_classes_are_plain(self):
        for name, node in nodes(ast.ClassDef):
            spot = f"{name}: {node.name}"
            self.assertEqual(node.decorator_list, [], spot)
            self.assertLessEqual(len(node.bases), 1, spot)
            self.assertEqual(node.keywords, [], spot)
            for inner in node.body:
                self.assertIsInstance(inner, (ast.FunctionDef, ast.Pass), spot)

    def test_assignments_loops_and_comprehensions(self):
        for name, node in nodes(ast.Assign):
            self.assertEqual(len(node.targets), 1, f"{name}: {node.lineno}")
        for name, node in nodes(ast.For, ast.While):
            self.assertEqual(node.orelse, [], f"{name}: {node.lineno}")
        for name, node in nodes(ast.Try):
            self.assertEqual(node.finalbody, [], f"{name}: {node.lineno}")
        for name, node in nodes(ast.ListComp):
            self.assertEqual(len(node.generators), 1, f"{name}: {node.lineno}")
            self.assertLessEqual(len(node.generators[0].ifs), 1, f"{name}: {node.lineno}")

    def test_values_are_of_the_kinds_that_are_there(self):
        for name, node in nodes(ast.Constant):
            self.assertTrue(node.value is None or isinstance(node.value, (bool, int, str)), f"{name}: {node.lineno}")
            if isinstance(node.value, str):
                self.assertNotIn("%", node.value, f"{name}: {node.lineno}")

    def test_what_is_named_at_a_files_top_is_named_once_and_plain(self):
        for name, tree in trees():
            names = names_of_the_top(tree)
            self.assertEqual(len(names), len(set(names)), name)
            functions = [node.name for node in tree.body if isinstance(node, ast.FunctionDef)]
            for node in tree.body:
                if isinstance(node, ast.Assign):
                    self.assertTrue(is_plain_value(node.value, functions), f"{name}: {node.lineno}")
                    if isinstance(node.value, (ast.List, ast.Dict)):
                        for inner in ast.walk(node.value):
                            kept_within = isinstance(inner, (ast.List, ast.Dict)) and inner is not node.value
                            self.assertFalse(kept_within, f"{name}: {node.lineno}")

    def test_what_is_drawn_is_defined_in_that_very_file(self):
        defined = {}
        for name, tree in trees():
            drawn = [alias.name for node in tree.body if isinstance(node, ast.ImportFrom) for alias in node.names]
            defined[name[:-3]] = set(names_of_the_top(tree)) - set(drawn)
        for name, node in nodes(ast.ImportFrom):
            for alias in node.names:
                self.assertIn(alias.name, defined[node.module.partition(".")[2]], f"{name}: {node.lineno}")

    def test_no_two_files_draw_from_one_another(self):
        left = {name[:-3]: stems_drawn_from(tree) for name, tree in trees()}
        while left:
            free = [stem for stem, drawn in left.items() if not drawn & set(left)]
            self.assertNotEqual(free, [], f"a ring among {sorted(left)}")
            for stem in free:
                del left[stem]

    def test_locals_are_not_called_like_classes_and_imports(self):
        for name, tree in trees():
            taken = {node.name for node in tree.body if isinstance(node, ast.ClassDef)}
            for node in tree.body:
                if isinstance(node, ast.ImportFrom):
                    taken |= {alias.name for alias in node.names}
            for node in ast.walk(tree):
                if isinstance(node, ast.FunctionDef):
                    for inner in node.body + [node.args]:
                        for bound in bound_names(inner):
                            self.assertNotIn(bound, taken, f"{name}: {node.name}")

    def test_names_that_are_not_used(self):
        for name, node in nodes(ast.Name):
            self.assertNotIn(node.id, BANNED_NAMES, f"{name}: {node.lineno}")
        for name, node in nodes(ast.Attribute):
            self.assertNotIn(node.attr, ("register", "mro", "elements", "open", "input", "format", "format_map"), name)

    def test_methods_that_are_called(self):
        for name, node in nodes(ast.Call):
            if isinstance(node.func, ast.Attribute):
                self.assertIn(node.func.attr, ALLOWED_METHODS | own_methods(), f"{name}: {node.lineno}")

    def test_values_of_objects(self):
        for name, node in nodes(ast.Attribute):
            if isinstance(node.ctx, ast.Store):
                self.assertNotIn(node.attr, NAMES_OF_PYTHONS_VALUES - ALLOWED_VALUES, f"{name}: {node.lineno}")
                self.assertNotIn(node.attr, own_methods(), f"{name}: {node.lineno}")
                self.assertIsInstance(node.value, ast.Name, f"{name}: {node.lineno}")

    def test_is_stands_beside_none_true_and_false_alone(self):
        for name, node in nodes(ast.Compare):
            if isinstance(node.ops[0], (ast.Is, ast.IsNot)):
                self.assertIsInstance(node.comparators[0], ast.Constant, f"{name}: {node.lineno}")


if __name__ == "__main__":
    unittest.main()
