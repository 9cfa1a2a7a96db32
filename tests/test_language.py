"""The part of Python that the package keeps to, as far as a short check can see it."""

import ast
import builtins
import pathlib
import re
import unittest

PACKAGE = pathlib.Path(__file__).resolve().parent.parent / "fewjoins"
FILES = sorted(path for path in PACKAGE.rglob("*") if path.is_file() and "__pycache__" not in path.parts)

OWN_NAMES = set(
    "len range enumerate zip min max sum abs sorted reversed int str bool bytes list tuple dict set"
    " frozenset isinstance ord repr any all divmod Exception ValueError TypeError KeyError IndexError"
    " LookupError ZeroDivisionError ArithmeticError OverflowError RuntimeError NotImplementedError"
    " AttributeError StopIteration".split())

OWN_METHODS = set(
    "append clear copy count endswith extend find get index insert isalnum isalpha isdigit islower isspace"
    " isupper items join keys ljust lower lstrip partition pop remove replace reverse rfind rjust rpartition"
    " rsplit rstrip setdefault split splitlines startswith strip update upper values zfill bit_length"
    " sort add discard isascii __init__".split())

BUILT_IN = set(vars(builtins))

NO_WORDS = (
    r"\b(type|typing|typing_extensions|enum|Enum|IntEnum|StrEnum|Flag|IntFlag|Generic|Protocol|ABC|ABCMeta"
    r"|namedtuple|NamedTuple|TypedDict|TYPE_CHECKING|abstractmethod)\b|dataclass|overload|contextmanager")

OUT = (
    ast.With, ast.Match, ast.Global, ast.Nonlocal, ast.Yield, ast.YieldFrom, ast.AsyncFunctionDef,
    ast.AsyncFor, ast.AsyncWith, ast.Await, ast.GeneratorExp, ast.NamedExpr, ast.Div, ast.MatMult, ast.Import)


def told_wrong(tree):
    """The nodes of a file that a rule sends back, each with its rule and row."""
    wrong = []
    for node in ast.walk(tree):
        for rule, holds in RULES:
            if not holds(node):
                wrong.append((rule, getattr(node, "lineno", 0)))
    return wrong


def names_given(node):
    """The names that a node gives, of whatever kind."""
    if isinstance(node, (ast.FunctionDef, ast.ClassDef)):
        return [node.name]
    if isinstance(node, ast.arg):
        return [node.arg]
    if isinstance(node, ast.Name) and isinstance(node.ctx, ast.Store):
        return [node.id]
    return []


def is_plain_def(node):
    if not isinstance(node, (ast.FunctionDef, ast.ClassDef)):
        return True
    if node.decorator_list or node.end_lineno - node.lineno + 1 > 40 and isinstance(node, ast.FunctionDef):
        return False
    if isinstance(node, ast.ClassDef):
        return len(node.bases) <= 1 and not node.keywords
    return not (node.args.vararg or node.args.kwarg or node.args.posonlyargs)


def is_own_import(node):
    if not isinstance(node, ast.ImportFrom):
        return True
    if node.col_offset or node.level or not node.module.startswith("fewjoins."):
        return False
    source = PACKAGE.parent / (node.module.replace(".", "/") + ".py")
    given = [name for row in ast.parse(source.read_text()).body for name in top_names(row)]
    return all(alias.name in given for alias in node.names)


def top_names(row):
    if isinstance(row, ast.Assign):
        return [target.id for target in row.targets]
    return names_given(row)


def is_known_name(node):
    if isinstance(node, ast.Name) and isinstance(node.ctx, ast.Load):
        return node.id in OWN_NAMES or node.id not in BUILT_IN
    return True


def is_free_name(node):
    for name in names_given(node):
        if name in BUILT_IN or name.startswith("_") and name != "__init__":
            return False
    return True


def methods_of_the_package():
    trees = [ast.parse(path.read_text()) for path in FILES]
    classes = [row for tree in trees for row in tree.body if isinstance(row, ast.ClassDef)]
    return [row.name for kind in classes for row in kind.body if isinstance(row, ast.FunctionDef)]


def is_known_method(node):
    if isinstance(node, ast.Call) and isinstance(node.func, ast.Attribute):
        return node.func.attr in OWN_METHODS or node.func.attr in methods_of_the_package()
    return True


def is_small_power(node):
    if isinstance(node, ast.BinOp) and isinstance(node.op, ast.Pow):
        return isinstance(node.right, ast.Constant) and 0 <= node.right.value <= 64
    return True


def is_plain_value(node):
    if isinstance(node, ast.Constant):
        return not isinstance(node.value, (float, complex)) and not (
            isinstance(node.value, str) and "%" in node.value)
    return not (isinstance(node, ast.FormattedValue) and node.format_spec)


def is_plain_is(node):
    if isinstance(node, ast.Compare) and any(isinstance(sign, (ast.Is, ast.IsNot)) for sign in node.ops):
        return all(isinstance(side, ast.Constant) for side in node.comparators)
    return True


def is_loop_without_else(node):
    return not (isinstance(node, (ast.For, ast.While)) and node.orelse)


RULES = (
    ("L6, L7: out", lambda node: not isinstance(node, OUT)),
    ("L4, L5, L10: plain defs", is_plain_def),
    ("L2, L16: imports", is_own_import),
    ("L8: names of Python's own", is_known_name),
    ("L12, L15: names that are given", is_free_name),
    ("L25: methods", is_known_method),
    ("L27: powers", is_small_power),
    ("L7, L27: values", is_plain_value),
    ("L20: is", is_plain_is),
    ("L6: loops", is_loop_without_else),
)

SENT_BACK = (
    "def f(x):\n    return x / 2\n", "import os\n", "from os import path\n", "def f(x):\n    return 2 ** x\n",
    "def f(xs):\n    return sum(x for x in xs)\n", "def f(x):\n    return x is f\n", "def f(*xs):\n    return 0\n",
    "def f(x):\n    return hash(x)\n", "def f(_x):\n    return 0\n", "def f(x):\n    return x.bit_count()\n",
    "def f(id):\n    return 0\n", "x = 1.5\n", "x = '%'\n", "from fewjoins.errors import Missing\n",
    "def f(x):\n    while x:\n        x -= 1\n    else:\n        x = 2\n    return x\n",
    "def f(x):\n" + "    x += 1\n" * 40)


class Language(unittest.TestCase):
    def test_there_are_files(self):
        self.assertIn(PACKAGE / "__init__.py", FILES)

    def test_files(self):
        for path in FILES:
            self.assertRegex(path.name, r"\A([a-z][a-z0-9_]*|__init__|__main__)\.py\Z")
            text = path.read_bytes().decode("ascii")
            self.assertRegex(text, r"\A[\n -~]*\Z", path.name)
            rows = text.split("\n")
            self.assertLessEqual(len(rows), 400, path.name)
            self.assertLessEqual(max(len(row) for row in rows), 120, path.name)
            self.assertIsNone(re.search(NO_WORDS, text), path.name)

    def test_code(self):
        for path in FILES:
            self.assertEqual(told_wrong(ast.parse(path.read_text())), [], path.name)

    def test_the_check_sends_back(self):
        for text in SENT_BACK:
            self.assertNotEqual(told_wrong(ast.parse(text)), [], text)


if __name__ == "__main__":
    unittest.main()
