"""Holds the package's files against those rules of the language that a walk over the code can see."""
import ast
import builtins
import pathlib
import re
import unittest

PACKAGE = pathlib.Path(__file__).resolve().parent.parent / "wholetables"

NODES = set("""
    Module Expr FunctionDef ClassDef arguments arg Return Assign AugAssign If While For Break Continue Pass Raise Try
    ExceptHandler Import ImportFrom alias Call Attribute Subscript Slice Name Load Store Constant List Tuple Dict
    ListComp comprehension Lambda keyword BinOp UnaryOp BoolOp Compare IfExp And Or Not USub UAdd Invert
    Add Sub Mult FloorDiv Mod Pow BitAnd BitOr BitXor LShift RShift
    Eq NotEq Lt LtE Gt GtE Is IsNot In NotIn JoinedStr FormattedValue
""".split())

OWN_NAMES = set("""
    len range enumerate zip min max sum abs sorted reversed int str bool list tuple dict set frozenset isinstance ord
    repr any all divmod Exception ValueError TypeError KeyError IndexError LookupError ZeroDivisionError
    ArithmeticError OverflowError RuntimeError NotImplementedError AttributeError StopIteration
""".split())

METHODS = set("""
    append clear copy count endswith extend find get index insert isalnum isalpha isdigit islower isspace isupper items
    join keys ljust lower lstrip partition pop remove replace reverse rfind rjust rpartition rsplit rstrip setdefault
    split splitlines startswith strip update upper values zfill bit_length
""".split())

NAMES_NOT_USED = set("""
    register mro elements open input version_info with_traceback add_note attrgetter breakpoint builtins compile
    copyright credits delattr dir eval exec exit gc getattr globals hasattr help id importlib license locals
    methodcaller os quit setattr super type vars sys __name__
""".split())

WORDS = re.compile(
    r"\b(type|typing|typing_extensions|enum|Enum|IntEnum|StrEnum|Flag|IntFlag|Generic|Protocol|ABC|ABCMeta|namedtuple"
    r"|NamedTuple|TypedDict|TYPE_CHECKING|abstractmethod)\b|dataclass|overload|contextmanager")

FILE_NAMES_NOT_USED = ("test", "tests", "testing", "site", "conftest", "sitecustomize", "usercustomize")


def faults(text):
    """What in a file's text lies outside the rules, a row each."""
    return faults_of_text(text) + faults_of_code(ast.parse(text))


def faults_of_text(text):
    rows = text.split("\n")
    found = [f"L10 row {k} is too long" for k, row in enumerate(rows, 1) if len(row) > 120]
    found += [f"L14 sign {sign!r}" for sign in text if not (" " <= sign <= "~" or sign == "\n")]
    found += [f"L17 word {match.group()}" for match in WORDS.finditer(text)]
    if text.count("\n") > 400:
        found.append("L10 the file is too long")
    return found


def faults_of_code(tree):
    found = []
    for node in ast.walk(tree):
        found += faults_of_node(node)
    bound_on_top = [name for node in tree.body for name in names_bound(node)]
    if len(bound_on_top) != len(set(bound_on_top)):
        found.append("L15 a name is bound twice at the top")
    return found + faults_of_top(tree)


def faults_of_top(tree):
    allowed = (ast.FunctionDef, ast.ClassDef, ast.ImportFrom, ast.Assign)
    return [
        f"L3 row {node.lineno}" for k, node in enumerate(tree.body)
        if not isinstance(node, allowed) and not (k == 0 and isinstance(node, ast.Expr))
    ]


def names_bound(node):
    if isinstance(node, (ast.FunctionDef, ast.ClassDef)):
        return [node.name]
    if isinstance(node, ast.Assign):
        return [target.id for target in node.targets if isinstance(target, ast.Name)]
    return []


def faults_of_node(node):
    found = []
    kind = node.__class__.__name__
    row = getattr(node, "lineno", 0)
    if kind not in NODES:
        found.append(f"L6/L7 {kind} in row {row}")
    if kind == "ImportFrom" and (node.level or not node.module.startswith("wholetables.")):
        found.append(f"L2 import in row {row}")
    if kind == "Import":
        found.append(f"L16 import in row {row}")
    if kind == "FunctionDef":
        found += faults_of_function(node)
    if kind == "Assign" and len(node.targets) != 1:
        found.append(f"L6 several targets in row {row}")
    if kind in ("For", "While") and node.orelse:
        found.append(f"L6 else behind a loop in row {row}")
    if kind == "Try" and node.finalbody:
        found.append(f"L6 finally in row {row}")
    if kind == "ListComp" and (len(node.generators) != 1 or len(node.generators[0].ifs) > 1):
        found.append(f"L7 comprehension in row {row}")
    if kind == "Constant" and isinstance(node.value, (float, complex, bytes)):
        found.append(f"L7 value in row {row}")
    if kind == "Attribute" and node.attr not in METHODS:
        found.append(f"L25 {node.attr} in row {row}")
    if kind == "BinOp" and isinstance(node.op, ast.Pow) and not written_exponent(node.right):
        found.append(f"L27 power in row {row}")
    if kind == "Constant" and isinstance(node.value, str) and "%" in node.value:
        found.append(f"L27 sign in a text in row {row}")
    if kind == "Compare" and not plain_is(node):
        found.append(f"L20 is in row {row}")
    return found + faults_of_name(node)


def plain_is(node):
    """Whether each `is` of a comparison stands beside None, True or False."""
    sides = [node.left] + node.comparators
    return all(
        any(isinstance(side, ast.Constant) and repr(side.value) in ("None", "True", "False")
            for side in sides[k:k + 2])
        for k, each in enumerate(node.ops) if isinstance(each, (ast.Is, ast.IsNot)))


def written_exponent(node):
    return isinstance(node, ast.Constant) and isinstance(node.value, int) and 0 <= node.value <= 64


def faults_of_function(node):
    found = []
    given = node.args
    if given.vararg or given.kwarg or given.kwonlyargs or given.posonlyargs or node.decorator_list:
        found.append(f"L4 {node.name}")
    if node.end_lineno - node.lineno + 1 > 40:
        found.append(f"L10 {node.name} is too long")
    return found


def faults_of_name(node):
    kind = node.__class__.__name__
    name = {"Name": "id", "arg": "arg", "FunctionDef": "name", "ClassDef": "name"}.get(kind)
    if name is None:
        return []
    name = getattr(node, name)
    found = []
    if name.startswith("_"):
        found.append(f"L12 {name}")
    if name in NAMES_NOT_USED:
        found.append(f"L17 {name}")
    bound = kind != "Name" or isinstance(node.ctx, ast.Store)
    if hasattr(builtins, name) and (bound or name not in OWN_NAMES | {"True", "False", "None"}):
        found.append(f"L8/L15 {name} in row {node.lineno}")
    return found


class TestPackage(unittest.TestCase):
    def files(self):
        return [path for path in sorted(PACKAGE.rglob("*")) if "__pycache__" not in path.parts]

    def test_only_plainly_named_files_lie_in_it(self):
        self.assertTrue((PACKAGE / "__init__.py").is_file())
        for path in self.files():
            self.assertTrue(path.is_file(), path)
            self.assertRegex(path.name, r"\A[a-z0-9_]+\.py\Z")
            self.assertNotIn(path.stem, FILE_NAMES_NOT_USED)
            self.assertFalse(path.stem.startswith("test_"), path)
            self.assertFalse(path.stem != "__init__" and hasattr(builtins, path.stem), path)

    def test_no_file_lies_outside_the_rules(self):
        for path in self.files():
            self.assertEqual(faults(path.read_bytes().decode("utf-8")), [], path)


class TestTheChecksThemselves(unittest.TestCase):
    def test_what_is_outside_the_rules_is_seen(self):
        for text in (
            "import sys\n", "from math import gcd\n", "from .tables import rank\n", "x = 1\nx = 2\n", "x = 1.5\n",
            "def f(*a):\n    return a\n", "def f(a):\n    return a / 2\n", "def f(a):\n    print(a)\n",
            "def f(a):\n    a.sort()\n", "def f(a):\n    return 2 ** a\n", "def f(hash):\n    return hash\n",
            "def _f():\n    return 1\n", "def f(a):\n    return {x for x in a}\n", "def f():\n    x = y = 1\n",
            "def f(a):\n    return [x for y in a for x in y]\n", "def f():\n    pass\n\n\nf()\n", "x = 1\t\n",
            "# a type\n", "x = '\u00e9'\n", "x = 1  #" + " " * 120 + "\n", "x = 1\n" + "\n" * 400,
            "def f():\n" + "    pass\n" * 40, "def f(a):\n    assert a\n", "def f(a):\n    yield a\n",
            "def f(a, b):\n    return a is b\n", "def f(a):\n    return a is 1\n",
            "def f(elements):\n    return 1\n", "x = 'a % b'\n",
        ):
            self.assertNotEqual(faults(text), [], text)

    def test_what_is_within_the_rules_passes(self):
        text = '"""Why."""\n\nMOST = -2\n\n\ndef f(a):\n    return [x // 2 for x in a if x > 2 ** 3]\n'
        self.assertEqual(faults(text), [])
        self.assertEqual(faults("def f(a):\n    return a is not None and a is True\n"), [])


if __name__ == "__main__":
    unittest.main()
