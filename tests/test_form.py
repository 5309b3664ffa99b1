"""The form of the package's own files, as far as it can be seen rule by rule (../shared/LANGUAGE.md)."""

import ast
import builtins
import re
import unittest
from pathlib import Path

PACKAGE = Path(__file__).resolve().parent.parent / "outward"

ALLOWED_NODES = set("""
    Module Import ImportFrom alias FunctionDef ClassDef arguments arg Return Assign AugAssign For While If Raise Try
    ExceptHandler Expr Pass Break Continue BoolOp BinOp UnaryOp Lambda IfExp Dict Set ListComp comprehension Compare
    Call JoinedStr FormattedValue Constant Attribute Subscript Name List Tuple Slice Load Store keyword
    Add Sub Mult FloorDiv Mod Pow BitAnd BitOr BitXor LShift RShift Invert And Or Not UAdd USub
    Eq NotEq Lt LtE Gt GtE Is IsNot In NotIn
""".split())

ALLOWED_BUILTINS = set("""
    len range enumerate zip min max sum abs sorted reversed int str bool list tuple dict set frozenset isinstance ord
    repr any all divmod Exception ValueError TypeError KeyError IndexError LookupError ZeroDivisionError
    ArithmeticError OverflowError RuntimeError NotImplementedError AttributeError StopIteration
""".split())

ALLOWED_METHODS = set("""
    append clear copy count endswith extend find get index insert isalnum isalpha isdigit islower isspace isupper items
    join keys ljust lower lstrip partition pop remove replace reverse rfind rjust rpartition rsplit rstrip setdefault
    split splitlines startswith strip update upper values zfill bit_length __init__
""".split())

FORBIDDEN_WORDS = re.compile(
    r"\b(type|typing|typing_extensions|enum|Enum|IntEnum|StrEnum|Flag|IntFlag|Generic|Protocol|ABC|ABCMeta|namedtuple"
    r"|NamedTuple|TypedDict|TYPE_CHECKING|abstractmethod)\b|dataclass|overload|contextmanager"
)

FILES = sorted(PACKAGE.glob("*.py"))
SOURCES = {path: path.read_text("utf-8") for path in FILES}
TREES = {path: ast.parse(source) for path, source in SOURCES.items()}


def nodes(kinds):
    """Every node of these kinds, each with where it stands."""
    for path, tree in TREES.items():
        for node in ast.walk(tree):
            if isinstance(node, kinds):
                yield node, f"{path.name}:{getattr(node, 'lineno', 0)}"


class Form(unittest.TestCase):

    def test_the_folder_holds_python_files_alone(self):
        lying = [path for path in PACKAGE.iterdir() if path.name != "__pycache__"]
        self.assertEqual(sorted(lying), FILES)
        self.assertIn("__init__.py", [path.name for path in FILES])
        for path in FILES:
            self.assertRegex(path.name, r"\A[a-z0-9_]+\.py\Z")

    def test_signs_words_and_sizes(self):
        for path, source in SOURCES.items():
            rows = source.split("\n")
            self.assertLessEqual(len(rows), 399, path.name)
            self.assertIsNone(FORBIDDEN_WORDS.search(source), path.name)
            self.assertRegex(source, r"\A[ -~\n]*\Z", path.name)
            self.assertLessEqual(max(map(len, rows)), 120, path.name)

    def test_imports_are_the_package_s_own(self):
        for node, where in nodes((ast.Import, ast.ImportFrom)):
            self.assertIsInstance(node, ast.ImportFrom, where)
            self.assertEqual((node.level, node.module.split(".")[0]), (0, "outward"), where)
            self.assertIn(PACKAGE.parent / (node.module.replace(".", "/") + ".py"), FILES, where)

    def test_functions_are_plain_and_short(self):
        for node, where in nodes(ast.FunctionDef):
            given = node.args
            self.assertLessEqual(node.end_lineno - node.lineno + 1, 40, where)
            self.assertEqual((node.decorator_list, given.vararg, given.kwarg, given.kwonlyargs), ([], None, None, []))

    def test_statements_and_expressions(self):
        for node, where in nodes(ast.AST):
            self.assertIn(node.__class__.__name__, ALLOWED_NODES, where)
        for node, where in nodes(ast.Constant):
            self.assertIsInstance(node.value, (int, str, bool, None.__class__), where)
        for node, where in nodes(ast.Assign):
            self.assertEqual(len(node.targets), 1, where)
        for node, where in nodes(ast.BinOp):
            if isinstance(node.op, ast.Pow):
                self.assertIn(getattr(node.right, "value", None), range(65), where)

    def test_names(self):
        own_methods = {node.name for node, where in nodes(ast.FunctionDef)}
        for node, where in nodes(ast.Name):
            self.assertRegex(node.id, r"\A[A-Za-z]", where)
            if node.id in dir(builtins):
                self.assertIn(node.id, ALLOWED_BUILTINS, where)
                self.assertIsInstance(node.ctx, ast.Load, where)
        for node, where in nodes(ast.Call):
            if isinstance(node.func, ast.Attribute):
                self.assertIn(node.func.attr, ALLOWED_METHODS | own_methods, where)


if __name__ == "__main__":
    unittest.main()
