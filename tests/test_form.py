"""The package's own files keep to the small part of Python that they are to be written in."""

import ast
import pathlib
import re
import unittest

import shelvesorder

PACKAGE = pathlib.Path(shelvesorder.__file__).parent
NODES = """
Module ImportFrom alias FunctionDef arguments arg ClassDef Assign AugAssign If While For Return Break Continue
Pass Raise Try ExceptHandler Expr Call keyword Constant Name Load Store Attribute Subscript Slice List Tuple
Dict Set ListComp comprehension Lambda IfExp BoolOp And Or UnaryOp Not USub Invert BinOp Add Sub Mult FloorDiv
Mod Pow BitAnd BitOr BitXor LShift RShift Compare Eq NotEq Lt LtE Gt GtE Is IsNot In NotIn JoinedStr
FormattedValue
""".split()
OWN_NAMES = """
len range enumerate zip min max sum abs sorted reversed int str bool list tuple dict set frozenset isinstance ord repr
any all divmod Exception ValueError TypeError KeyError IndexError LookupError ZeroDivisionError ArithmeticError
OverflowError RuntimeError NotImplementedError AttributeError StopIteration
""".split()
METHODS = """
append clear copy count endswith extend find get index insert isalnum isalpha isdigit islower isspace isupper items join
keys ljust lower lstrip partition pop remove replace reverse rfind rjust rpartition rsplit rstrip setdefault split
splitlines startswith strip update upper values zfill bit_length
""".split()
WORDS = re.compile(
    r"\b(type|typing|typing_extensions|enum|Enum|IntEnum|StrEnum|Flag|IntFlag|Generic|Protocol|ABC|ABCMeta|namedtuple"
    r"|NamedTuple|TypedDict|TYPE_CHECKING|abstractmethod|register|mro|elements|open|input|chr)\b"
    r"|dataclass|overload|contextmanager"
)
BUILT_IN = set(dir(__builtins__) if not isinstance(__builtins__, dict) else __builtins__)


def own_files():
    return sorted(path for path in PACKAGE.iterdir() if path.name != "__pycache__")


class Form(unittest.TestCase):
    def each(self, *kinds):
        for path in own_files():
            for node in ast.walk(ast.parse(path.read_text("utf-8"))):
                if not kinds or isinstance(node, kinds):
                    yield f"{path.name}:{getattr(node, 'lineno', 0)}", node

    def test_files(self):
        self.assertIn("__init__.py", [path.name for path in own_files()])
        for path in own_files():
            self.assertRegex(path.name, r"\A(__init__|[a-z][a-z0-9_]*)\.py\Z")
            text = path.read_text("utf-8")
            self.assertRegex(text, r"\A[ -~\n]*\Z", path.name)
            self.assertIsNone(WORDS.search(text), path.name)
            lines = text.split("\n")
            self.assertLessEqual(len(lines), 400, path.name)
            self.assertLessEqual(max(map(len, lines)), 120, path.name)

    def test_nodes(self):
        for where, node in self.each():
            self.assertIn(type(node).__name__, NODES, where)
            if isinstance(node, ast.Constant):
                self.assertIn(type(node.value), (int, str, bool, type(None)), where)
            if isinstance(node, (ast.For, ast.While)):
                self.assertEqual(node.orelse, [], where)
            if isinstance(node, ast.ListComp):
                self.assertEqual(len(node.generators), 1, where)
                self.assertLessEqual(len(node.generators[0].ifs), 1, where)
            if isinstance(node, ast.Assign):
                self.assertEqual(len(node.targets), 1, where)

    def test_imports(self):
        for where, node in self.each(ast.ImportFrom):
            self.assertEqual(node.level, 0, where)
            self.assertTrue(node.module.startswith("shelvesorder."), where)
            self.assertEqual(node.col_offset, 0, where)

    def test_functions(self):
        for where, node in self.each(ast.FunctionDef):
            self.assertLessEqual(node.end_lineno - node.lineno + 1, 40, where)
            self.assertEqual(node.decorator_list, [], where)
            self.assertIsNone(node.args.vararg or node.args.kwarg, where)
            self.assertEqual(node.args.kwonlyargs, [], where)

    def test_names(self):
        for where, node in self.each(ast.Name, ast.arg, ast.FunctionDef, ast.ClassDef):
            if isinstance(node, ast.Name):
                name = node.id
            else:
                name = node.arg if isinstance(node, ast.arg) else node.name
            if name != "__init__":
                self.assertRegex(name, r"\A[A-Za-z][A-Za-z0-9_]*\Z", where)
            if name in BUILT_IN:
                self.assertIsInstance(node, ast.Name, where)
                self.assertIsInstance(node.ctx, ast.Load, where)
                self.assertIn(name, OWN_NAMES, where)

    def test_methods_and_values(self):
        methods = {item.name for where, node in self.each(ast.ClassDef) for item in node.body
                   if isinstance(item, ast.FunctionDef)}
        values = {node.attr for where, node in self.each(ast.Attribute) if isinstance(node.ctx, ast.Store)}
        self.assertEqual(methods & values, set())
        for where, node in self.each(ast.Attribute):
            self.assertIn(node.attr, methods | values | set(METHODS), where)

    def test_is_stands_beside_none(self):
        for where, node in self.each(ast.Compare):
            for operator, right in zip(node.ops, node.comparators):
                if isinstance(operator, (ast.Is, ast.IsNot)):
                    self.assertIn(getattr(right, "value", 0), (None, True, False), where)


if __name__ == "__main__":
    unittest.main()
