"""The package keeps to its small part of Python: the rules that can be read off its files."""

import ast
import builtins
import pathlib
import re
import unittest

PACKAGE = pathlib.Path(__file__).resolve().parent.parent / "factloom"

PYTHONS_OWN = set(vars(builtins))
ALLOWED_NODES = set(
    """Module FunctionDef ClassDef arguments arg Expr Assign AugAssign If While For Return Break Continue Pass Raise
    Try ExceptHandler ImportFrom alias Name Load Store Constant List Tuple Dict Set BinOp UnaryOp BoolOp Compare IfExp
    Call keyword Attribute Subscript Slice ListComp comprehension JoinedStr FormattedValue Lambda
    Add Sub Mult FloorDiv Mod Pow BitAnd BitOr BitXor LShift RShift Invert USub UAdd Not And Or
    Eq NotEq Lt LtE Gt GtE In NotIn Is IsNot""".split()
)
ALLOWED_BUILTINS = set(
    """len range enumerate zip min max sum abs sorted reversed int str bool list tuple dict set frozenset isinstance
    ord repr any all divmod Exception ValueError TypeError KeyError IndexError LookupError ZeroDivisionError
    ArithmeticError OverflowError RuntimeError NotImplementedError AttributeError StopIteration""".split()
)
ALLOWED_METHODS = set(
    """append clear copy count endswith extend find get index insert isalnum isalpha isdigit islower isspace isupper
    items join keys ljust lower lstrip partition pop remove replace reverse rfind rjust rpartition rsplit rstrip
    setdefault split splitlines startswith strip update upper values zfill bit_length""".split()
)
ALLOWED_KEYWORDS = {
    "sorted": {"key", "reverse"}, "min": {"key", "default"}, "max": {"key", "default"}, "sum": {"start"},
    "enumerate": {"start"}, "zip": {"strict"},
}
WALKED_AT_ONCE = {"zip", "enumerate", "reversed", "range", "items", "keys", "values"}
WALKERS = {"list", "tuple", "dict", "sorted", "sum", "any", "all", "enumerate", "zip", "min", "max"}
SPECIAL_METHODS = {"__init__", "__eq__", "__repr__", "__str__", "__len__"}
WORDS_OUT = re.compile(
    r"\b(type|typing|typing_extensions|enum|Enum|IntEnum|StrEnum|Flag|IntFlag|Generic|Protocol|ABC|ABCMeta|namedtuple"
    r"|NamedTuple|TypedDict|TYPE_CHECKING|abstractmethod)\b|dataclass|overload|contextmanager"
)


def package_files():
    return sorted(path for path in PACKAGE.rglob("*") if path.is_file() and "__pycache__" not in path.parts)


def own_methods(trees):
    """The methods of the package's classes."""
    classes = [node for tree in trees for node in ast.walk(tree) if isinstance(node, ast.ClassDef)]
    return {part.name for node in classes for part in node.body if isinstance(part, ast.FunctionDef)}


def own_values(trees):
    """The values that the package's classes give to their objects."""
    attributes = [node for tree in trees for node in ast.walk(tree) if isinstance(node, ast.Attribute)]
    return {node.attr for node in attributes if isinstance(node.ctx, ast.Store)}


def called_name(call):
    """The plain name of what is called."""
    return getattr(call.func, "id", None) or getattr(call.func, "attr", None)


def bound_names(tree):
    """The parameters and the names that are given a value."""
    for node in ast.walk(tree):
        if isinstance(node, ast.arg):
            yield node.arg
        elif isinstance(node, ast.Name) and isinstance(node.ctx, ast.Store):
            yield node.id


class Language(unittest.TestCase):
    def setUp(self):
        self.texts = {path.name: path.read_bytes().decode("ascii") for path in package_files()}
        self.trees = {name: ast.parse(text) for name, text in self.texts.items()}

    def nodes(self, *kinds):
        for name, tree in self.trees.items():
            for node in ast.walk(tree):
                if not kinds or isinstance(node, kinds):
                    yield f"{name}:{getattr(node, 'lineno', 0)}", node

    def test_files_are_plain_python_files_at_the_top_of_the_package(self):
        self.assertIn("__init__.py", self.texts)
        for path in package_files():
            self.assertRegex(path.name, r"\A([a-z][a-z0-9_]*|__init__)\.py\Z")
            self.assertEqual(path.parent, PACKAGE)

    def test_signs_words_and_sizes(self):
        for name, text in self.texts.items():
            self.assertRegex(text, r"\A[ -~\n]*\Z", name)
            self.assertIsNone(WORDS_OUT.search(text), name)
            rows = text.split("\n")
            self.assertLessEqual(len(rows), 400, name)
            self.assertLessEqual(max(len(row) for row in rows), 120, name)
        for where, node in self.nodes(ast.FunctionDef):
            self.assertLessEqual(node.end_lineno - node.lineno + 1, 40, where)

    def test_only_the_allowed_parts_of_the_language(self):
        for where, node in self.nodes():
            self.assertIn(type(node).__name__, ALLOWED_NODES, where)
            if isinstance(node, (ast.FunctionDef, ast.ClassDef)):
                self.assertEqual(node.decorator_list, [], where)
            if isinstance(node, ast.arguments):
                self.assertFalse(node.vararg or node.kwarg or node.kwonlyargs or node.posonlyargs, where)
            if isinstance(node, ast.Assign):
                self.assertEqual(len(node.targets), 1, where)
            if isinstance(node, (ast.For, ast.While)):
                self.assertEqual(node.orelse, [], where)
            if isinstance(node, ast.Try):
                self.assertEqual(node.finalbody, [], where)
            if isinstance(node, ast.ListComp):
                self.assertEqual(len(node.generators), 1, where)
                self.assertLessEqual(len(node.generators[0].ifs), 1, where)
            if isinstance(node, ast.FormattedValue):
                self.assertIsInstance(node.value, ast.Name, where)
            if isinstance(node, ast.Constant):
                self.assertIn(type(node.value), (int, str, bool, type(None)), where)

    def test_is_stands_beside_none_true_and_false_alone(self):
        for where, node in self.nodes(ast.Compare):
            for operator, right in zip(node.ops, node.comparators):
                if isinstance(operator, (ast.Is, ast.IsNot)):
                    self.assertIn(getattr(right, "value", right), (None, True, False), where)

    def test_imports_are_of_the_package_alone(self):
        for where, node in self.nodes(ast.ImportFrom):
            self.assertEqual(node.level, 0, where)
            self.assertRegex(node.module, r"\Afactloom\.[a-z_]+\Z", where)
            self.assertNotIn("*", [part.name for part in node.names], where)

    def test_names(self):
        for where, node in self.nodes(ast.Name):
            if node.id in PYTHONS_OWN:
                self.assertIn(node.id, ALLOWED_BUILTINS, where)
        for where, node in self.nodes(ast.FunctionDef, ast.ClassDef):
            self.assertTrue(node.name in SPECIAL_METHODS or not node.name.startswith("_"), where)
            self.assertNotIn(node.name, PYTHONS_OWN, where)
        for name, tree in self.trees.items():
            taken = {part.name for node in tree.body if isinstance(node, ast.ImportFrom) for part in node.names}
            taken.update(node.name for node in tree.body if isinstance(node, ast.ClassDef))
            for bound in bound_names(tree):
                self.assertFalse(bound.startswith("_") or bound in PYTHONS_OWN or bound in taken, (name, bound))

    def test_methods(self):
        methods = own_methods(self.trees.values())
        values = own_values(self.trees.values())
        self.assertEqual(methods & values, set())
        for name in (methods | values) - SPECIAL_METHODS - ALLOWED_METHODS:
            self.assertFalse(any(hasattr(kind, name) for kind in (str, int, list, tuple, dict, set, bytes)), name)
        for where, node in self.nodes(ast.Attribute):
            self.assertIn(node.attr, ALLOWED_METHODS | methods | values, where)

    def test_keywords_of_calls(self):
        for where, node in self.nodes(ast.Call):
            for keyword in node.keywords:
                self.assertIn(keyword.arg, ALLOWED_KEYWORDS.get(called_name(node), ()), where)

    def test_walks_are_not_kept(self):
        on_the_spot = set()
        for where, node in self.nodes(ast.For, ast.comprehension):
            on_the_spot.add(node.iter)
        for where, node in self.nodes(ast.Call):
            if called_name(node) in WALKERS:
                on_the_spot.update(node.args[:1])
        for where, node in self.nodes(ast.Call):
            if called_name(node) in WALKED_AT_ONCE:
                self.assertTrue(node in on_the_spot, where)

    def test_no_two_files_draw_from_one_another(self):
        draws = {}
        for name, tree in self.trees.items():
            imports = [node for node in tree.body if isinstance(node, ast.ImportFrom)]
            draws[name] = {node.module.split(".")[1] + ".py" for node in imports}
        self.assertEqual(draws["__init__.py"], set())
        settled = set()
        while any(name not in settled and draws[name] <= settled for name in draws):
            settled.update(name for name in draws if draws[name] <= settled)
        self.assertEqual(settled, set(draws))


if __name__ == "__main__":
    unittest.main()
