"""The package's own files, held to those rules of LANGUAGE.md that can be counted or looked up."""

import ast
import builtins
import pathlib
import re
import unittest

PACKAGE = pathlib.Path(__file__).resolve().parent.parent / "pullswarm"

OWN_NAMES = set(
    "len range enumerate zip min max sum abs sorted reversed int str bool list tuple dict set frozenset isinstance"
    " ord repr any all divmod Exception ValueError TypeError KeyError IndexError LookupError ZeroDivisionError"
    " ArithmeticError OverflowError RuntimeError NotImplementedError AttributeError StopIteration".split()
)

DOUBLE_UNDERSCORES = {"__init__", "__eq__", "__repr__", "__str__", "__len__"}

NODES = (
    "Module Import ImportFrom alias FunctionDef Lambda arguments arg ClassDef Assign AugAssign If While For Return"
    " Break Continue Pass Raise Try ExceptHandler Expr Constant List Tuple Dict Set BinOp UnaryOp BoolOp Compare IfExp"
    " Call keyword Attribute Subscript Slice ListComp comprehension JoinedStr FormattedValue Name Load Store"
    " Add Sub Mult FloorDiv Mod Pow BitAnd BitOr BitXor LShift RShift Invert USub UAdd Not And Or"
    " Eq NotEq Lt LtE Gt GtE Is IsNot In NotIn"
)
ALLOWED_NODES = tuple(getattr(ast, name) for name in NODES.split())

METHODS = set(
    "append clear copy count endswith extend find get index insert isalnum isalpha isdigit islower isspace isupper"
    " items join keys ljust lower lstrip partition pop remove replace reverse rfind rjust rpartition rsplit rstrip"
    " setdefault split splitlines startswith strip update upper values zfill bit_length".split()
)

WORDS = re.compile(
    r"\b(type|typing|typing_extensions|enum|Enum|IntEnum|StrEnum|Flag|IntFlag|Generic|Protocol|ABC|ABCMeta|namedtuple"
    r"|NamedTuple|TypedDict|TYPE_CHECKING|abstractmethod)\b|dataclass|overload|contextmanager"
)


def faults_of_text(text):
    faults = []
    lines = text.split("\n")
    if len(lines) - 1 > 400:
        faults.append("L10: more than 400 lines")
    for row, line in enumerate(lines, start=1):
        if len(line) > 120:
            faults.append(f"L10: line {row} has more than 120 signs")
        if re.search(r"[^ -~]", line):
            faults.append(f"L14: line {row} has a sign that is not from the blank to ~")
        if WORDS.search(line):
            faults.append(f"L17: line {row} has a word that is not used")
    return faults


def bound_names(node):
    """Each name that the node binds."""
    if isinstance(node, (ast.FunctionDef, ast.ClassDef)):
        return [node.name]
    if isinstance(node, ast.arg):
        return [node.arg]
    if isinstance(node, ast.Name) and isinstance(node.ctx, ast.Store):
        return [node.id]
    if isinstance(node, ast.Attribute) and isinstance(node.ctx, ast.Store):
        return [node.attr]
    return []


def faults_of_def(node):
    faults = []
    given = node.args
    if node.decorator_list:
        faults.append("L4: a decorator")
    if given.vararg or given.kwarg or given.kwonlyargs:
        faults.append("L4: a star among the parameters")
    if node.end_lineno - node.lineno + 1 > 40:
        faults.append("L10: more than 40 lines")
    return faults


def faults_of_node(node):
    faults = []
    if not isinstance(node, ALLOWED_NODES):
        faults.append(f"L6 or L7: {type(node).__name__.lower()} is not in the language")
    if isinstance(node, ast.Constant) and isinstance(node.value, (float, complex, bytes)):
        faults.append("L7: neither a whole number nor a text")
    if isinstance(node, ast.Constant) and isinstance(node.value, str) and "%" in node.value:
        faults.append("L27: a text with a sign for remainders")
    if isinstance(node, ast.Assign) and (
        len(node.targets) > 1 or not isinstance(node.targets[0], (ast.Name, ast.Attribute, ast.Subscript))
    ):
        faults.append("L6: more than one target")
    if isinstance(node, ast.ListComp) and (len(node.generators) > 1 or len(node.generators[0].ifs) > 1):
        faults.append("L7: more than one for or if in a comprehension")
    if isinstance(node, ast.BinOp) and isinstance(node.op, ast.Pow) and not isinstance(node.right, ast.Constant):
        faults.append("L27: an exponent that isn't written")
    if isinstance(node, ast.Import) or isinstance(node, ast.ImportFrom) and (
        node.level or not node.module.startswith("pullswarm.")
    ):
        faults.append("L2 or L16: not drawn from a file of the package")
    if isinstance(node, ast.FunctionDef):
        faults.extend(faults_of_def(node))
    if isinstance(node, ast.Name) and isinstance(node.ctx, ast.Load):
        if node.id in vars(builtins) and node.id not in OWN_NAMES:
            faults.append(f"L8: {node.id} is not used")
    for name in bound_names(node):
        if name.startswith("_") and name not in DOUBLE_UNDERSCORES:
            faults.append(f"L12: {name} begins with an underscore")
        if name in vars(builtins) and not isinstance(node, ast.Attribute):
            faults.append(f"L15: {name} is a name of Python's own")
    return faults


def methods_of(tree):
    """The names of all methods of a file's classes."""
    classes = [node for node in tree.body if isinstance(node, ast.ClassDef)]
    return [node.name for found in classes for node in found.body if isinstance(node, ast.FunctionDef)]


def values_of(tree):
    """The names of all values that are given to objects."""
    return [
        node.attr for node in ast.walk(tree) if isinstance(node, ast.Attribute) and isinstance(node.ctx, ast.Store)
    ]


def called_methods(tree):
    calls = [node for node in ast.walk(tree) if isinstance(node, ast.Call)]
    return [node.func.attr for node in calls if isinstance(node.func, ast.Attribute)]


def faults_of_locals(tree):
    taken = [node.name for node in tree.body if isinstance(node, ast.ClassDef)]
    for node in tree.body:
        if isinstance(node, ast.ImportFrom):
            taken.extend(alias.asname or alias.name for alias in node.names)
    names = [
        name for node in ast.walk(tree) if isinstance(node, (ast.arg, ast.Name)) for name in bound_names(node)
    ]
    return [f"L15: {name} is a class or an import of its file" for name in sorted(set(names) & set(taken))]


def drawn_from(tree):
    return [node.module for node in tree.body if isinstance(node, ast.ImportFrom)]


def faults_of(text):
    faults = faults_of_text(text) + faults_of_locals(ast.parse(text))
    for node in ast.walk(ast.parse(text)):
        row = getattr(node, "lineno", "?")
        faults.extend(f"{fault}, at line {row}" for fault in faults_of_node(node))
    return faults


class LanguageTest(unittest.TestCase):
    def test_files(self):
        there = [path for path in PACKAGE.iterdir() if path.name != "__pycache__"]
        self.assertIn("__init__.py", [path.name for path in there])
        for path in there:
            self.assertRegex(path.name, r"\A(__init__|__main__|[a-z][a-z0-9_]*)\.py\Z", "L1 and L14")

    def test_the_package_keeps_to_the_language(self):
        for path in sorted(PACKAGE.glob("*.py")):
            with self.subTest(path=path.name):
                self.assertEqual(faults_of(path.read_text(encoding="utf-8")), [])

    def test_methods_and_values(self):
        trees = [ast.parse(path.read_text(encoding="utf-8")) for path in PACKAGE.glob("*.py")]
        methods = {name for tree in trees for name in methods_of(tree)}
        values = {name for tree in trees for name in values_of(tree)}
        self.assertEqual(methods & values, set(), "L18")
        called = {name for tree in trees for name in called_methods(tree)}
        self.assertEqual(called - methods - METHODS, set(), "L25")

    def test_no_two_files_draw_from_one_another(self):
        left = {
            f"pullswarm.{path.stem}": drawn_from(ast.parse(path.read_text(encoding="utf-8")))
            for path in PACKAGE.glob("*.py")
        }
        while left:
            free = [name for name, needed in left.items() if not any(other in left for other in needed)]
            self.assertNotEqual(free, [], f"L16: {sorted(left)} draw from one another")
            for name in free:
                del left[name]

    def test_faults_are_seen(self):
        wrong = (
            "import math\n", "from os import path\n", "from . import swarm\n", "half = 0.5\n", "half = 1 / 2\n",
            "def double(*rows):\n    return rows\n", "def list(rows):\n    return rows\n", "hidden_kind = 'type'\n",
            "def show(row):\n    print(row)\n", "def drop(rows):\n    del rows[0]\n", "_hidden = 1\n",
            "def walk(rows):\n    return {row: True for row in rows}\n", "def check(row):\n    assert row\n",
            "# " + "x" * 120 + "\n", "\tx = 1\n".lstrip() + "#\t\n", "x = 1\n" * 401,
            "def long():\n" + "    x = 1\n" * 40, "def walk(rows):\n    yield rows\n", "x = y = 1\n",
            "def both(row):\n    x, y = row\n    return x + y\n", "def power(n):\n    return 2 ** n\n",
            "def walk(rows):\n    return [x for row in rows for x in row]\n", "text = 'of a hundred, 5 %'\n",
            "from pullswarm.swarm import Swarm\n\n\ndef walk(Swarm):\n    return Swarm\n",
        )
        for text in wrong:
            with self.subTest(text=text[:40]):
                self.assertNotEqual(faults_of(text), [])


if __name__ == "__main__":
    unittest.main()
