"""The package keeps to the small part of Python that it's written in, as far as a look at the code can tell."""

import ast
import builtins
import re
import unittest
from pathlib import Path

PACKAGE = Path(__file__).resolve().parent.parent / "samepeople"

OWN_NAMES = set(
    "len range enumerate zip min max sum abs sorted reversed int str bool list tuple dict set frozenset isinstance "
    "ord repr any all divmod Exception ValueError TypeError KeyError IndexError LookupError ZeroDivisionError "
    "ArithmeticError OverflowError RuntimeError NotImplementedError AttributeError StopIteration".split()
)
OWN_METHODS = set(
    "append clear copy count endswith extend find get index insert isalnum isalpha isdigit islower isspace isupper "
    "items join keys ljust lower lstrip partition pop remove replace reverse rfind rjust rpartition rsplit rstrip "
    "setdefault split splitlines startswith strip update upper values zfill bit_length".split()
)
NODES = set(
    "Module ImportFrom alias FunctionDef arguments arg ClassDef Assign AugAssign If While For Return Break Continue "
    "Pass Raise Try ExceptHandler Expr Constant Name Load Store Attribute Subscript Slice Call keyword List Tuple Dict "
    "BinOp UnaryOp BoolOp Compare IfExp ListComp comprehension Lambda JoinedStr FormattedValue Add Sub Mult FloorDiv "
    "Mod Pow BitAnd BitOr BitXor LShift RShift Invert USub Not And Or Eq NotEq Lt LtE Gt GtE Is IsNot In NotIn".split()
)
WORDS = re.compile(
    r"\b(type|typing|typing_extensions|enum|Enum|IntEnum|StrEnum|Flag|IntFlag|Generic|Protocol|ABC|ABCMeta|namedtuple"
    r"|NamedTuple|TypedDict|TYPE_CHECKING|abstractmethod)\b|dataclass|overload|contextmanager"
)
PLAIN_NAME = re.compile(r"[A-Za-z][A-Za-z0-9_]*")
SPECIAL = {"__init__", "__eq__", "__repr__", "__str__", "__len__"}


def names_bound(tree):
    for node in ast.walk(tree):
        if isinstance(node, ast.Name) and isinstance(node.ctx, ast.Store):
            yield node.id
        elif isinstance(node, ast.arg):
            yield node.arg
        elif isinstance(node, (ast.FunctionDef, ast.ClassDef)):
            yield node.name
        elif isinstance(node, ast.Attribute):
            yield node.attr


class Language(unittest.TestCase):
    def setUp(self):
        self.texts = {path: path.read_text(encoding="utf-8") for path in sorted(PACKAGE.rglob("*.py"))}
        self.trees = {path: ast.parse(text) for path, text in self.texts.items()}

    def test_nothing_else_lies_there(self):
        there = [path.name for path in PACKAGE.iterdir() if path.name != "__pycache__"]
        self.assertIn("__init__.py", there)
        self.assertEqual([name for name in there if not re.fullmatch(r"[a-z][a-z0-9_]*\.py|__init__\.py", name)], [])

    def test_signs_words_and_sizes(self):
        for path, text in self.texts.items():
            rows = text.split("\n")
            self.assertLessEqual(len(rows), 400, path)
            self.assertLessEqual(max(len(text_row) for text_row in rows), 120, path)
            self.assertIsNone(re.search(r"[^ -~\n]", text), path)
            self.assertIsNone(WORDS.search(text), path)

    def test_functions_are_short(self):
        for path, tree in self.trees.items():
            for node in ast.walk(tree):
                if isinstance(node, ast.FunctionDef):
                    self.assertLessEqual(node.end_lineno - node.lineno + 1, 40, (path, node.name))

    def test_statements_and_expressions(self):
        for path, tree in self.trees.items():
            kinds = {type(node).__name__ for node in ast.walk(tree)}
            self.assertEqual(kinds - NODES, set(), path)

    def test_imports_are_the_package_s_own(self):
        for path, tree in self.trees.items():
            for node in ast.walk(tree):
                if isinstance(node, ast.ImportFrom):
                    self.assertIn(node, tree.body, path)
                    self.assertEqual(node.level, 0, path)
                    self.assertTrue(node.module.startswith("samepeople."), path)

    def test_names(self):
        for path, tree in self.trees.items():
            for bound in names_bound(tree):
                self.assertTrue(PLAIN_NAME.fullmatch(bound) or bound in SPECIAL, (path, bound))
            used = {node.id for node in ast.walk(tree) if isinstance(node, ast.Name)}
            self.assertEqual({name for name in used if hasattr(builtins, name)} - OWN_NAMES, set(), path)

    def test_methods(self):
        nodes = [node for tree in self.trees.values() for node in ast.walk(tree)]
        own = {node.name for node in nodes if isinstance(node, ast.FunctionDef)}
        for path, tree in self.trees.items():
            calls = [node.func for node in ast.walk(tree) if isinstance(node, ast.Call)]
            called = {func.attr for func in calls if isinstance(func, ast.Attribute)}
            self.assertEqual(called - own - OWN_METHODS, set(), path)

    def test_no_name_is_a_method_and_a_value(self):
        nodes = [node for tree in self.trees.values() for node in ast.walk(tree)]
        classes = [node for node in nodes if isinstance(node, ast.ClassDef)]
        methods = {part.name for node in classes for part in node.body if isinstance(part, ast.FunctionDef)}
        values = {node.attr for node in nodes if isinstance(node, ast.Attribute) and isinstance(node.ctx, ast.Store)}
        self.assertEqual(methods & values, set())

    def test_locals_are_not_called_like_what_is_there(self):
        for path, tree in self.trees.items():
            taken = {node.name for node in tree.body if isinstance(node, ast.ClassDef)}
            taken |= {name.name for node in tree.body if isinstance(node, ast.ImportFrom) for name in node.names}
            for node in ast.walk(tree):
                if isinstance(node, ast.FunctionDef):
                    given = {part.arg for part in ast.walk(node) if isinstance(part, ast.arg)}
                    given |= {
                        part.id for part in ast.walk(node)
                        if isinstance(part, ast.Name) and isinstance(part.ctx, ast.Store)
                    }
                    self.assertEqual({name for name in given if name in taken or hasattr(builtins, name)}, set(), path)

    def test_no_two_files_draw_from_one_another(self):
        drawn = {
            "samepeople." + path.stem: {node.module for node in tree.body if isinstance(node, ast.ImportFrom)}
            for path, tree in self.trees.items()
        }
        while drawn:
            free = {module for module, others in drawn.items() if not others & set(drawn)}
            self.assertTrue(free, drawn)
            drawn = {module: others for module, others in drawn.items() if module not in free}
