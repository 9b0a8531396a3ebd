"""The package keeps to the small part of Python that the project asks for, where a machine can tell."""

import ast
import builtins
import pathlib
import re
import unittest

PACKAGE = pathlib.Path(__file__).resolve().parent.parent / "orderedways"

STATEMENTS = (
    ast.Module, ast.FunctionDef, ast.ClassDef, ast.ImportFrom, ast.Assign, ast.AugAssign, ast.If, ast.While, ast.For,
    ast.Return, ast.Break, ast.Continue, ast.Pass, ast.Raise, ast.Try, ast.ExceptHandler, ast.Expr,
)
EXPRESSIONS = (
    ast.Constant, ast.Name, ast.List, ast.Tuple, ast.Dict, ast.BinOp, ast.UnaryOp, ast.BoolOp, ast.Compare, ast.IfExp,
    ast.Call, ast.Attribute, ast.Subscript, ast.Slice, ast.ListComp, ast.JoinedStr, ast.FormattedValue, ast.Lambda,
)
PARTS = (
    ast.arguments, ast.arg, ast.alias, ast.keyword, ast.comprehension, ast.expr_context, ast.boolop, ast.operator,
    ast.unaryop, ast.cmpop,
)
OWN_NAMES = (
    "len range enumerate zip min max sum abs sorted reversed int str bool list tuple dict set frozenset isinstance ord "
    "repr any all divmod Exception ValueError TypeError KeyError IndexError LookupError ZeroDivisionError "
    "ArithmeticError OverflowError RuntimeError NotImplementedError AttributeError StopIteration"
).split()
METHODS = (
    "append clear copy count endswith extend find get index insert isalnum isalpha isdigit islower isspace isupper "
    "items join keys ljust lower lstrip partition pop remove replace reverse rfind rjust rpartition rsplit rstrip "
    "setdefault split splitlines startswith strip update upper values zfill bit_length"
).split()
DUNDERS = ("__init__", "__eq__", "__repr__", "__str__", "__len__")
WALKED = ("zip", "enumerate", "reversed", "range", "items", "keys", "values")
WALKERS = ("list", "tuple", "dict", "sorted", "sum", "any", "all", "enumerate", "zip", "min", "max")
WORDS = (
    r"\b(type|typing|typing_extensions|enum|Enum|IntEnum|StrEnum|Flag|IntFlag|Generic|Protocol|ABC|ABCMeta|namedtuple"
    r"|NamedTuple|TypedDict|TYPE_CHECKING|abstractmethod)\b|dataclass|overload|contextmanager"
)


def package_files():
    return sorted(path for path in PACKAGE.rglob("*") if path.is_file() and "__pycache__" not in path.parts)


def trees():
    return [ast.parse(path.read_text()) for path in package_files()]


def names_bound(tree):
    """Every name that the code binds: parameters, targets, defs, classes."""
    for part in ast.walk(tree):
        if isinstance(part, ast.Name) and isinstance(part.ctx, ast.Store):
            yield part.id
        if isinstance(part, (ast.FunctionDef, ast.ClassDef)):
            yield part.name
        if isinstance(part, ast.arg):
            yield part.arg


def own_methods():
    """The names of the methods of the package's own classes."""
    classes = [part for tree in trees() for part in ast.walk(tree) if isinstance(part, ast.ClassDef)]
    return {each.name for part in classes for each in part.body if isinstance(each, ast.FunctionDef)}


def own_values():
    """The names of the values that the package's own objects keep."""
    parts = [part for tree in trees() for part in ast.walk(tree) if isinstance(part, ast.Attribute)]
    return {part.attr for part in parts if isinstance(part.ctx, ast.Store)}


class KeepsToTheLanguage(unittest.TestCase):
    def test_files(self):
        self.assertIn(PACKAGE / "__init__.py", package_files())
        for path in package_files():
            self.assertRegex(path.name, r"^([a-z][a-z0-9_]*|__init__)\.py$")

    def test_signs_and_sizes(self):
        for path in package_files():
            with self.subTest(file=path.name):
                text = path.read_text()
                self.assertRegex(text, r"\A[ -~\n]*\Z")
                self.assertIsNone(re.search(WORDS, text))
                self.assertLessEqual(len(text.splitlines()), 400)
                self.assertLessEqual(max(len(row) for row in text.splitlines()), 120)

    def test_functions_are_small(self):
        for tree in trees():
            for part in ast.walk(tree):
                if isinstance(part, ast.FunctionDef):
                    self.assertLessEqual(part.end_lineno - part.lineno + 1, 40, part.name)
                    self.assertEqual(part.decorator_list, [])
                    self.assertIsNone(part.args.vararg)
                    self.assertIsNone(part.args.kwarg)
                    self.assertEqual(part.args.kwonlyargs, [])

    def test_statements_and_expressions(self):
        for tree in trees():
            for part in ast.walk(tree):
                self.assertIsInstance(part, STATEMENTS + EXPRESSIONS + PARTS, ast.dump(part))
                self.assertNotIsInstance(part, ast.Div)
                if isinstance(part, (ast.For, ast.While)):
                    self.assertEqual(part.orelse, [])
                if isinstance(part, ast.Assign):
                    self.assertEqual(len(part.targets), 1)
                if isinstance(part, ast.Constant):
                    self.assertNotIsInstance(part.value, (float, bytes, complex))

    def test_imports(self):
        for tree in trees():
            for part in ast.walk(tree):
                if isinstance(part, ast.ImportFrom):
                    self.assertIn(part, tree.body)
                    self.assertEqual(part.level, 0)
                    self.assertRegex(part.module, r"^orderedways\.[a-z]")
                    self.assertNotIn("*", [each.name for each in part.names])

    def test_names(self):
        for tree in trees():
            for name in names_bound(tree):
                if name not in DUNDERS:
                    self.assertFalse(name.startswith("_"), name)
                    self.assertFalse(hasattr(builtins, name), name)
            for part in ast.walk(tree):
                if isinstance(part, ast.Name) and hasattr(builtins, part.id):
                    self.assertIn(part.id, OWN_NAMES)

    def test_methods(self):
        free = own_methods() | own_values()
        for tree in trees():
            for part in ast.walk(tree):
                if isinstance(part, ast.Attribute) and part.attr not in free:
                    self.assertIn(part.attr, METHODS)

    def test_no_name_is_a_method_and_a_value(self):
        self.assertEqual(own_methods() & own_values(), set())

    def test_walked_at_once(self):
        for tree in trees():
            walked = [part.iter for part in ast.walk(tree) if isinstance(part, (ast.For, ast.comprehension))]
            calls = [part for part in ast.walk(tree) if isinstance(part, ast.Call)]
            walked += [part.args[0] for part in calls if isinstance(part.func, ast.Name)
                       and part.func.id in WALKERS and part.args]
            for part in calls:
                name = getattr(part.func, "id", getattr(part.func, "attr", ""))
                if name in WALKED:
                    self.assertIn(part, walked, ast.dump(part))

    def test_sets_are_not_kept(self):
        for tree in trees():
            within = [part.args[0] for part in ast.walk(tree) if isinstance(part, ast.Call)
                      and isinstance(part.func, ast.Name) and part.func.id in ("len", "sorted") and part.args]
            for part in ast.walk(tree):
                if isinstance(part, ast.Call) and isinstance(part.func, ast.Name) and part.func.id == "set":
                    self.assertIn(part, within, ast.dump(part))


if __name__ == "__main__":
    unittest.main()
