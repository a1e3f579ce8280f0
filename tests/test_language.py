"""Point 1: no clock, chance or files. The package keeps to a small part of Python without them.

This sees the rules that are easily seen; it does not stand in for reading them.
"""

import ast
import builtins
import pathlib
import re
import unittest

PACKAGE = pathlib.Path(__file__).resolve().parent.parent / "rulefound"
FILES = sorted(PACKAGE.glob("**/*.py"))

BUILTINS = set("""
    len range enumerate zip min max sum abs sorted reversed int str bool list tuple dict set frozenset
    isinstance ord repr any all divmod Exception ValueError TypeError KeyError IndexError LookupError
    ZeroDivisionError ArithmeticError OverflowError RuntimeError NotImplementedError AttributeError StopIteration
""".split())
METHODS = set("""
    append clear copy count endswith extend find get index insert isalnum isalpha isdigit islower isspace
    isupper items join keys ljust lower lstrip partition pop remove replace reverse rfind rjust rpartition
    rsplit rstrip setdefault split splitlines startswith strip update upper values zfill bit_length
""".split())
NODES = set("""
    Module Expr Constant ImportFrom alias FunctionDef arguments arg ClassDef Lambda Assign AugAssign If While For
    Return Break Continue Pass Raise Try ExceptHandler Call Name Load Store Attribute Subscript Slice List Tuple
    Dict Set ListComp comprehension BinOp UnaryOp BoolOp Compare IfExp JoinedStr FormattedValue keyword
    Add Sub Mult FloorDiv Mod Pow BitAnd BitOr BitXor LShift RShift Invert USub UAdd Not And Or
    Eq NotEq Lt LtE Gt GtE In NotIn Is IsNot
""".split())
WORDS = re.compile(
    r"\b(type|typing|typing_extensions|enum|Enum|IntEnum|StrEnum|Flag|IntFlag|Generic|Protocol|ABC|ABCMeta"
    r"|namedtuple|NamedTuple|TypedDict|TYPE_CHECKING|abstractmethod)\b|dataclass|overload|contextmanager"
)

# Of L23: what is walked on the spot, and the calls in which it may stand first for that.
WALKED = {"zip", "enumerate", "reversed", "range"}
WALKERS = set("list tuple dict sorted sum any all enumerate zip min max".split())
WALKED_METHODS = {"items", "keys", "values"}


def bound_names(tree):
    """Names that the file itself gives a meaning."""
    for node in ast.walk(tree):
        if isinstance(node, (ast.FunctionDef, ast.ClassDef)):
            yield node.name
        elif isinstance(node, ast.arg):
            yield node.arg
        elif isinstance(node, ast.alias):
            yield node.asname or node.name
        elif isinstance(node, ast.Name) and isinstance(node.ctx, ast.Store):
            yield node.id


def own_attributes(trees):
    for tree in trees:
        for node in ast.walk(tree):
            if isinstance(node, ast.ClassDef):
                yield from (part.name for part in node.body if isinstance(part, ast.FunctionDef))
            elif isinstance(node, ast.Attribute) and isinstance(node.ctx, ast.Store):
                yield node.attr


def is_walked(node):
    if not isinstance(node, ast.Call):
        return False
    if isinstance(node.func, ast.Attribute):
        return node.func.attr in WALKED_METHODS
    return isinstance(node.func, ast.Name) and node.func.id in WALKED


def walked_on_the_spot(tree):
    for node in ast.walk(tree):
        if isinstance(node, (ast.For, ast.comprehension)):
            yield node.iter
        elif isinstance(node, ast.Call) and node.args:
            if isinstance(node.func, ast.Name) and node.func.id in WALKERS:
                yield node.args[0]


class Language(unittest.TestCase):
    @classmethod
    def setUpClass(cls):
        cls.texts = {file.name: file.read_text(encoding="utf-8") for file in FILES}
        cls.trees = {name: ast.parse(text) for name, text in cls.texts.items()}

    def test_the_package_holds_plain_files_alone(self):
        for path in PACKAGE.iterdir():
            if path.name != "__pycache__":
                self.assertRegex(path.name, r"^([a-z][a-z0-9_]*|__init__|__main__)\.py$")
        self.assertIn("__init__.py", self.texts)

    def test_signs_lines_and_words(self):
        for name, text in self.texts.items():
            lines = text.split("\n")
            self.assertRegex(text, r"\A[ -~\n]*\Z", name)
            self.assertLessEqual(len(lines), 401, name)
            self.assertLessEqual(max(map(len, lines)), 120, name)
            self.assertIsNone(WORDS.search(text), name)

    def test_small_functions(self):
        for name, tree in self.trees.items():
            for node in ast.walk(tree):
                if isinstance(node, ast.FunctionDef):
                    self.assertLessEqual(node.end_lineno - node.lineno + 1, 40, (name, node.name))
                    self.assertEqual(node.decorator_list, [], (name, node.name))

    def test_imports_are_the_package_s_own(self):
        for name, tree in self.trees.items():
            for node in ast.walk(tree):
                if isinstance(node, ast.ImportFrom):
                    self.assertEqual(node.level, 0, name)
                    self.assertRegex(node.module, r"^rulefound\.[a-z_]+$", name)

    def test_statements_and_expressions(self):
        for name, tree in self.trees.items():
            for node in ast.walk(tree):
                self.assertIn(node.__class__.__name__, NODES, (name, getattr(node, "lineno", 0)))

    def test_names_and_methods(self):
        attributes = METHODS | set(own_attributes(self.trees.values()))
        for name, tree in self.trees.items():
            bound = set(bound_names(tree))
            self.assertEqual(bound & BUILTINS, set(), name)
            for node in ast.walk(tree):
                if isinstance(node, ast.Name):
                    self.assertIn(node.id, bound | BUILTINS, (name, node.lineno))
                elif isinstance(node, ast.Attribute):
                    self.assertIn(node.attr, attributes, (name, node.lineno))

    def test_walks_are_walked_on_the_spot(self):
        for name, tree in self.trees.items():
            allowed = list(walked_on_the_spot(tree))
            for node in ast.walk(tree):
                if is_walked(node):
                    self.assertTrue(any(node is one for one in allowed), (name, node.lineno))

    def test_powers_have_written_exponents(self):
        for name, tree in self.trees.items():
            for node in ast.walk(tree):
                if isinstance(node, (ast.BinOp, ast.AugAssign)) and isinstance(node.op, ast.Pow):
                    exponent = node.right if isinstance(node, ast.BinOp) else node.value
                    self.assertIsInstance(exponent, ast.Constant, (name, node.lineno))
                    self.assertIn(exponent.value, range(65), (name, node.lineno))

    def test_texts_are_without_signs_that_are_kept_out(self):
        for name, tree in self.trees.items():
            for node in ast.walk(tree):
                if isinstance(node, ast.Constant) and isinstance(node.value, str):
                    self.assertNotIn("%", node.value, (name, node.lineno))

    def test_no_two_files_draw_from_one_another(self):
        drawn = {}
        for name, tree in self.trees.items():
            froms = [node.module for node in ast.walk(tree) if isinstance(node, ast.ImportFrom)]
            drawn[name] = {module.partition(".")[2] + ".py" for module in froms}
        while drawn:
            free = [name for name in drawn if not drawn[name] & set(drawn)]
            self.assertNotEqual(free, [], drawn)
            for name in free:
                del drawn[name]

    def test_no_name_is_like_one_of_python_s_own(self):
        for name, tree in self.trees.items():
            self.assertEqual(set(bound_names(tree)) & set(dir(builtins)), set(), name)
            for bound in bound_names(tree):
                self.assertRegex(bound, r"^([A-Za-z][A-Za-z0-9_]*|__init__)$", name)
