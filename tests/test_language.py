"""The form of the package's files, as far as it can be seen from their rows: no clock, chance, file or network too."""

import ast
import builtins
import re
import unittest
from pathlib import Path

PACKAGE = Path(__file__).resolve().parent.parent / "straysign"
FILES = sorted(path for path in PACKAGE.rglob("*") if path.is_file() and "__pycache__" not in path.parts)

NODES = set("""
Module FunctionDef arguments arg Return Assign AugAssign For While If Raise Try ExceptHandler ImportFrom alias Expr
Pass Break Continue ClassDef Name Load Store Constant List Tuple Dict BinOp BoolOp UnaryOp Compare IfExp Call keyword
Attribute Subscript Slice ListComp comprehension JoinedStr FormattedValue Lambda
Add Sub Mult FloorDiv Mod Pow BitAnd BitOr BitXor LShift RShift Invert USub UAdd Not And Or
Eq NotEq Lt LtE Gt GtE Is IsNot In NotIn
""".split())

OWN_NAMES_OF_PYTHON = set("""
len range enumerate zip min max sum abs sorted reversed int str bool list tuple dict set frozenset isinstance ord repr
any all divmod Exception ValueError TypeError KeyError IndexError LookupError ZeroDivisionError ArithmeticError
OverflowError RuntimeError NotImplementedError AttributeError StopIteration
""".split())

METHODS = set("""
append clear copy count endswith extend find get index insert isalnum isalpha isdigit islower isspace isupper items
join keys ljust lower lstrip partition pop remove replace reverse rfind rjust rpartition rsplit rstrip setdefault split
splitlines startswith strip update upper values zfill bit_length
""".split())

NO_WORDS = set("""
type typing typing_extensions enum Enum IntEnum StrEnum Flag IntFlag Generic Protocol ABC ABCMeta namedtuple NamedTuple
TypedDict TYPE_CHECKING abstractmethod
""".split())


def tree_of(path):
    return ast.parse(path.read_text(encoding="ascii"))


def nodes_of(path):
    return ast.walk(tree_of(path))


def bound_names(tree):
    for node in ast.walk(tree):
        if isinstance(node, (ast.FunctionDef, ast.ClassDef)):
            yield node.name
        elif isinstance(node, ast.arg):
            yield node.arg
        elif isinstance(node, ast.Name) and isinstance(node.ctx, ast.Store):
            yield node.id


def drawn_from(path):
    return [node.module.split(".")[-1] for node in nodes_of(path) if isinstance(node, ast.ImportFrom)]


class Form(unittest.TestCase):
    def test_the_package_holds_plain_files_alone(self):
        self.assertIn(PACKAGE / "__init__.py", FILES)
        for path in FILES:
            self.assertRegex(path.name, r"^(__init__|[a-z][a-z0-9_]*)\.py$")
            self.assertNotRegex(path.name, r"^test")

    def test_signs_and_sizes(self):
        for path in FILES:
            text = path.read_bytes().decode("ascii")
            self.assertRegex(text, r"\A[ -~\n]*\Z", path.name)
            rows = text.splitlines()
            self.assertLessEqual(len(rows), 400, path.name)
            self.assertLessEqual(max(len(row) for row in rows), 120, path.name)
            for node in nodes_of(path):
                if isinstance(node, ast.FunctionDef):
                    self.assertLessEqual(node.end_lineno - node.lineno + 1, 40, (path.name, node.name))

    def test_words_that_stand_nowhere(self):
        for path in FILES:
            text = path.read_text(encoding="ascii")
            self.assertFalse(NO_WORDS & set(re.findall(r"\w+", text)), path.name)
            self.assertNotRegex(text, "dataclass|overload|contextmanager")

    def test_statements_and_expressions(self):
        for path in FILES:
            for node in nodes_of(path):
                where = (path.name, getattr(node, "lineno", None), ast.dump(node)[:80])
                self.assertIn(type(node).__name__, NODES, where)
                if isinstance(node, ast.Constant):
                    self.assertIsInstance(node.value, (int, str, type(None)), where)
                    self.assertNotIn("%", str(node.value), where)
                if isinstance(node, (ast.For, ast.While)):
                    self.assertEqual(node.orelse, [], where)
                if isinstance(node, ast.Assign):
                    self.assertEqual(len(node.targets), 1, where)
                if isinstance(node, ast.ListComp):
                    self.assertEqual(len(node.generators), 1, where)
                    self.assertLessEqual(len(node.generators[0].ifs), 1, where)
                if isinstance(node, ast.FormattedValue):
                    self.assertIsInstance(node.value, ast.Name, where)
                if isinstance(node, ast.arguments):
                    self.assertFalse(node.vararg or node.kwarg or node.kwonlyargs or node.posonlyargs, where)
                if isinstance(node, (ast.FunctionDef, ast.ClassDef)):
                    self.assertEqual(node.decorator_list, [], where)

    def test_expressions_by_themselves_are_calls_or_the_files_docstring(self):
        for path in FILES:
            tree = tree_of(path)
            self.assertIsNotNone(ast.get_docstring(tree), path.name)
            for node in ast.walk(tree):
                if isinstance(node, ast.Expr) and node is not tree.body[0]:
                    self.assertIsInstance(node.value, ast.Call, (path.name, node.lineno))

    def test_is_stands_beside_none_true_and_false_alone(self):
        for path in FILES:
            for node in nodes_of(path):
                if isinstance(node, ast.Compare) and isinstance(node.ops[0], (ast.Is, ast.IsNot)):
                    self.assertTrue(isinstance(node.comparators[0], ast.Constant)
                                    and node.comparators[0].value in (None, True, False), (path.name, node.lineno))


class Names(unittest.TestCase):
    def test_names_that_are_bound(self):
        for path in FILES:
            for name in bound_names(tree_of(path)):
                if name not in ("__init__", "__eq__", "__repr__", "__str__", "__len__"):
                    self.assertRegex(name, r"^[A-Za-z][A-Za-z0-9_]*$", path.name)
                self.assertFalse(hasattr(builtins, name), (path.name, name))

    def test_names_that_are_read(self):
        for path in FILES:
            tree = tree_of(path)
            own = set(bound_names(tree))
            own |= {alias.name for node in ast.walk(tree) if isinstance(node, ast.ImportFrom) for alias in node.names}
            for node in ast.walk(tree):
                if isinstance(node, ast.Name) and isinstance(node.ctx, ast.Load):
                    self.assertIn(node.id, own | OWN_NAMES_OF_PYTHON, (path.name, node.lineno))

    def test_methods(self):
        own = {name for path in FILES for name in bound_names(tree_of(path))}
        for path in FILES:
            for node in nodes_of(path):
                if isinstance(node, ast.Call) and isinstance(node.func, ast.Attribute):
                    self.assertIn(node.func.attr, METHODS | own | {"__init__"}, (path.name, node.lineno))

    def test_no_local_is_called_like_an_import(self):
        for path in FILES:
            tree = tree_of(path)
            drawn = {alias.name for node in tree.body if isinstance(node, ast.ImportFrom) for alias in node.names}
            self.assertFalse(drawn & set(bound_names(tree)), path.name)


class Imports(unittest.TestCase):
    def test_from_the_very_file_that_defines_the_name(self):
        for path in FILES:
            tree = tree_of(path)
            for node in ast.walk(tree):
                if isinstance(node, ast.ImportFrom):
                    self.assertIn(node, tree.body, path.name)
                    self.assertEqual((node.level, node.module.split(".")[0]), (0, "straysign"), path.name)
                    source = PACKAGE / (node.module.split(".", 1)[1] + ".py")
                    defined = set(bound_names(tree_of(source)))
                    for alias in node.names:
                        self.assertIn(alias.name, defined, path.name)
                        self.assertIsNone(alias.asname, path.name)

    def test_no_two_files_draw_from_one_another(self):
        left = {path.stem: drawn_from(path) for path in FILES}
        while left:
            free = [name for name in left if not any(other in left for other in left[name])]
            self.assertTrue(free, left)
            for name in free:
                del left[name]

    def test_the_package_itself_draws_from_nothing(self):
        self.assertEqual(drawn_from(PACKAGE / "__init__.py"), [])
