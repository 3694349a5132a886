"""The package's files keep to the small part of Python that they are to be written in."""

import ast
import builtins
import pathlib
import re
import unittest

PACKAGE = pathlib.Path(__file__).resolve().parent.parent / "reachedchances"

NODES = """
    Module FunctionDef ClassDef Return Assign AugAssign For While If Raise Try ExceptHandler ImportFrom Expr Pass
    Break Continue BoolOp BinOp UnaryOp Lambda IfExp Dict Set ListComp comprehension Compare Call JoinedStr
    FormattedValue Constant Attribute Subscript Name List Tuple Slice Load Store And Or Add Sub Mult FloorDiv Mod Pow
    LShift RShift BitOr BitXor BitAnd Invert Not UAdd USub Eq NotEq Lt LtE Gt GtE Is IsNot In NotIn arguments arg
    keyword alias
""".split()

OWN_NAMES = """
    len range enumerate zip min max sum abs sorted reversed int str bool list tuple dict set frozenset isinstance ord
    repr any all divmod Exception ValueError KeyError IndexError LookupError ZeroDivisionError ArithmeticError
    OverflowError RuntimeError NotImplementedError StopIteration
""".split()

OWN_METHODS = """
    append clear copy count endswith extend find get index insert isalnum isalpha isdigit islower isspace isupper items
    join keys ljust lower lstrip partition pop remove replace reverse rfind rjust rpartition rsplit rstrip setdefault
    split splitlines startswith strip update upper values zfill bit_length
""".split()

WORDS = re.compile(
    r"\b(type|typing|typing_extensions|enum|Enum|IntEnum|StrEnum|Flag|IntFlag|Generic|Protocol|ABC|ABCMeta|namedtuple"
    r"|NamedTuple|TypedDict|TYPE_CHECKING|abstractmethod)\b|dataclass|overload|contextmanager"
)


def files():
    return sorted(PACKAGE.glob("*.py"))


def nodes(path, *kinds):
    return [node for node in ast.walk(ast.parse(path.read_text())) if isinstance(node, kinds)]


class Form(unittest.TestCase):
    def test_nothing_else_lies_in_the_package(self):
        there = [path.name for path in PACKAGE.iterdir() if path.name != "__pycache__"]
        self.assertIn("__init__.py", there)
        for name in there:
            self.assertRegex(name, r"\A(__init__|[a-z][a-z0-9_]*)\.py\Z")

    def test_rows_and_signs(self):
        for path in files():
            rows = path.read_bytes().decode("utf-8").split("\n")
            self.assertLessEqual(len(rows), 400, path.name)
            for place, row in enumerate(rows, start=1):
                with self.subTest(file=path.name, row=place):
                    self.assertRegex(row, r"\A[ -~]{0,120}\Z")
                    self.assertIsNone(WORDS.search(row))

    def test_functions_are_short(self):
        for path in files():
            for node in nodes(path, ast.FunctionDef):
                self.assertLessEqual(node.end_lineno - node.lineno + 1, 40, node.name)

    def test_statements_and_expressions(self):
        for path in files():
            for node in nodes(path, ast.AST):
                with self.subTest(file=path.name, row=getattr(node, "lineno", 0)):
                    self.assertIn(node.__class__.__name__, NODES)
                    if isinstance(node, ast.Constant):
                        self.assertIn(node.value.__class__, (int, str, bool, None.__class__))
                    if isinstance(node, ast.Assign):
                        self.assertEqual(len(node.targets), 1)
                    if isinstance(node, (ast.For, ast.While)):
                        self.assertEqual(node.orelse, [])
                    if isinstance(node, (ast.FunctionDef, ast.ClassDef)):
                        self.assertEqual(node.decorator_list, [])

    def test_only_the_package_s_own_is_imported(self):
        for path in files():
            for node in nodes(path, ast.ImportFrom):
                self.assertEqual(node.level, 0)
                self.assertRegex(node.module, r"\Areachedchances\.[a-z]+\Z")

    def test_names(self):
        for path in files():
            read = [node.id for node in nodes(path, ast.Name) if isinstance(node.ctx, ast.Load)]
            bound = [node.id for node in nodes(path, ast.Name) if isinstance(node.ctx, ast.Store)]
            bound += [node.arg for node in nodes(path, ast.arg)]
            bound += [node.name for node in nodes(path, ast.FunctionDef, ast.ClassDef) if node.name != "__init__"]
            imported = [alias.name for node in nodes(path, ast.ImportFrom) for alias in node.names]
            self.assertEqual([name for name in read if hasattr(builtins, name) and name not in OWN_NAMES], [])
            self.assertEqual([name for name in bound if hasattr(builtins, name) or name in imported], [])
            self.assertEqual([name for name in bound if not re.match(r"[A-Za-z][A-Za-z0-9_]*\Z", name)], [])

    def test_methods_of_python_s_own(self):
        for path in files():
            called = [node.func.attr for node in nodes(path, ast.Call) if isinstance(node.func, ast.Attribute)]
            own = [node.name for other in files() for node in nodes(other, ast.FunctionDef)]
            self.assertEqual([name for name in called if name not in OWN_METHODS and name not in own], [])


if __name__ == "__main__":
    unittest.main()
