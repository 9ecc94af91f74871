"""That the package keeps to its small part of Python.

It sees the rules that can be told from the form of a file: files, imports, statements, names, sizes, signs, words,
what is bound twice, and what is walked on the spot.
With the imports and Python's own names held, no clock, chance or file can be reached (point [1]).
"""

import ast
import builtins
import pathlib
import re
import unittest

PACKAGE = pathlib.Path(__file__).resolve().parent.parent / "figuretape"

OWN_NAMES = set(
    "len range enumerate zip min max sum abs sorted reversed int str bool list tuple dict set frozenset isinstance "
    "ord repr any all divmod Exception ValueError TypeError KeyError IndexError LookupError ZeroDivisionError "
    "ArithmeticError OverflowError RuntimeError NotImplementedError AttributeError StopIteration".split()
)
TWO_UNDERSCORES = set("__init__ __eq__ __repr__ __str__ __len__ __all__ __version__".split())
METHODS = set(
    "append clear copy count endswith extend find get index insert isalnum isalpha isdigit islower isspace isupper "
    "items join keys ljust lower lstrip partition pop remove replace reverse rfind rjust rpartition rsplit rstrip "
    "setdefault split splitlines startswith strip update upper values zfill bit_length".split()
)
WORDS = re.compile(
    r"\b(type|typing|typing_extensions|enum|Enum|IntEnum|StrEnum|Flag|IntFlag|Generic|Protocol|ABC|ABCMeta|namedtuple|"
    r"NamedTuple|TypedDict|TYPE_CHECKING|abstractmethod)\b|dataclass|overload|contextmanager"
)
UNUSED_NAMES = set("register mro elements open input version_info with_traceback add_note format format_map".split())
WALKED = set("zip enumerate reversed range .items .keys .values".split())
WALKERS = set("list tuple dict sorted sum any all enumerate zip .join".split())
KEYWORDS = {
    "sorted": ("key", "reverse"), "min": ("key", "default"), "max": ("key", "default"), "sum": ("start",),
    "enumerate": ("start",), "zip": ("strict",),
}
FORMS = set(
    "Module FunctionDef ClassDef arguments arg Assign AugAssign If While For Return Break Continue Pass Raise Try "
    "ExceptHandler Expr ImportFrom alias Constant List Tuple Dict Set Name Attribute Subscript Slice Call keyword "
    "Lambda BinOp UnaryOp BoolOp Compare IfExp ListComp comprehension JoinedStr FormattedValue Load Store "
    "Add Sub Mult FloorDiv Mod Pow BitAnd BitOr BitXor LShift RShift Invert USub UAdd Not And Or "
    "Eq NotEq Lt LtE Gt GtE In NotIn Is IsNot".split()
)


def text_faults(text):
    faults = []
    if len(text.splitlines()) > 400:
        faults.append("L10: a file of more than 400 lines")
    for line in text.split("\n"):
        if len(line) > 120:
            faults.append("L10: a line of more than 120 signs")
        if not all(" " <= sign <= "~" for sign in line):
            faults.append("L14: a sign that is not allowed")
        if WORDS.search(line):
            faults.append("L17: a word that stands nowhere")
    return faults


def import_faults(tree):
    faults = []
    for node in ast.walk(tree):
        if isinstance(node, ast.ImportFrom):
            if node not in tree.body or node.level or any(name.name == "*" for name in node.names):
                faults.append("L2: the form of an import")
            elif not node.module.startswith("figuretape."):
                faults.append("L2: an import from outside")
            elif not PACKAGE.parent.joinpath(*node.module.split(".")).with_suffix(".py").is_file():
                faults.append("L16: an import not from the file itself")
    return faults


def top_faults(tree):
    allowed = (ast.ImportFrom, ast.FunctionDef, ast.ClassDef, ast.Assign)
    rows = tree.body[1:] if ast.get_docstring(tree) else tree.body
    return ["L3: something done at the top of a file" for row in rows if not isinstance(row, allowed)]


def form_faults(node):
    name = node.__class__.__name__
    if name not in FORMS:
        return [f"L6, L7: {name} is not used"]
    if isinstance(node, ast.Constant) and not isinstance(node.value, (int, str, type(None))):
        return ["L7: a value of another kind"]
    if isinstance(node, (ast.While, ast.For)) and node.orelse:
        return ["L6: else behind a loop"]
    if isinstance(node, ast.Try) and node.finalbody:
        return ["L6: finally"]
    if isinstance(node, ast.Assign) and len(node.targets) > 1:
        return ["L6: two targets"]
    if isinstance(node, ast.arguments) and (node.vararg or node.kwarg or node.kwonlyargs or node.posonlyargs):
        return ["L4: parameters that are not plain"]
    return []


def def_faults(node):
    faults = []
    if isinstance(node, (ast.FunctionDef, ast.ClassDef)) and node.decorator_list:
        faults.append("L4, L5: a decorator")
    if isinstance(node, ast.FunctionDef) and node.end_lineno - node.lineno + 1 > 40:
        faults.append("L10: a function of more than 40 lines")
    if isinstance(node, ast.ClassDef):
        if len(node.bases) > 1 or node.keywords:
            faults.append("L5: more than one base")
        if not all(isinstance(row, (ast.FunctionDef, ast.Pass)) for row in node.body):
            faults.append("L5: a value in a class body")
    return faults


def bound_or_read(node):
    for field in ("id", "arg", "attr", "name", "asname"):
        name = getattr(node, field, None)
        if isinstance(name, str):
            yield name


def name_faults(node):
    faults = []
    for name in bound_or_read(node):
        if name.startswith("_") and name not in TWO_UNDERSCORES:
            faults.append(f"L12: the name {name}")
    if isinstance(node, ast.Name) and hasattr(builtins, node.id):
        if node.id not in OWN_NAMES or not isinstance(node.ctx, ast.Load):
            faults.append(f"L8, L15: the name {node.id}")
    if isinstance(node, (ast.arg, ast.FunctionDef, ast.ClassDef)):
        name = node.arg if isinstance(node, ast.arg) else node.name
        if hasattr(builtins, name):
            faults.append(f"L15: {name} is a name of Python's own")
    return faults


# Names that are bound in a def: its parameters and whatever is stored to.
def local_names(tree):
    names = [node.arg for node in ast.walk(tree) if isinstance(node, ast.arg)]
    for top in tree.body:
        if isinstance(top, (ast.FunctionDef, ast.ClassDef)):
            found = [node for node in ast.walk(top) if isinstance(node, ast.Name)]
            names += [node.id for node in found if isinstance(node.ctx, ast.Store)]
    return names


def binding_faults(tree):
    imported = [name.asname or name.name for row in tree.body if isinstance(row, ast.ImportFrom) for name in row.names]
    classes = [row.name for row in tree.body if isinstance(row, ast.ClassDef)]
    defs = [row.name for row in tree.body if isinstance(row, ast.FunctionDef)]
    given = [row.targets[0].id for row in tree.body if isinstance(row, ast.Assign)]
    bound = imported + classes + defs + given
    faults = [f"L15: {name} is bound twice at the top" for name in set(bound) if bound.count(name) > 1]
    return faults + [f"L15: the local {name}" for name in local_names(tree) if name in imported + classes]


def value_faults(node):
    faults = []
    if isinstance(node, ast.Compare) and any(isinstance(sign, (ast.Is, ast.IsNot)) for sign in node.ops):
        sides = [node.left] + node.comparators
        if not any(isinstance(side, ast.Constant) and side.value in (None, True, False) for side in sides):
            faults.append("L20: is")
    if getattr(node, "annotation", None) is not None or getattr(node, "returns", None) is not None:
        faults.append("L21: an annotation")
    if isinstance(node, ast.BinOp) and isinstance(node.op, ast.Pow):
        if not (isinstance(node.right, ast.Constant) and 0 <= node.right.value <= 64):
            faults.append("L27: an exponent that is not written")
    if isinstance(node, ast.Constant) and isinstance(node.value, str) and "%" in node.value:
        faults.append("L27: the sign for the rest within a text")
    if isinstance(node, (ast.Name, ast.Attribute)):
        if (node.id if isinstance(node, ast.Name) else node.attr) in UNUSED_NAMES:
            faults.append("L17: a name that is not used")
    return faults


def called_name(node):
    if isinstance(node, ast.Call) and isinstance(node.func, ast.Name):
        return node.func.id
    if isinstance(node, ast.Call) and isinstance(node.func, ast.Attribute):
        return "." + node.func.attr
    return ""


# What is only walked, and the sets, must stand within something that takes them on the spot.
def walk_faults(tree):
    allowed = set()
    for node in ast.walk(tree):
        if isinstance(node, (ast.For, ast.comprehension)):
            allowed.add((id(node.iter), "walk"))
        if called_name(node) in WALKERS or called_name(node) in ("min", "max") and len(node.args) == 1:
            allowed |= {(id(part), "walk") for part in node.args[:1]}
        if called_name(node) in ("sorted", "len"):
            allowed |= {(id(part), "set") for part in node.args[:1]}
        if isinstance(node, ast.Compare):
            allowed |= {(id(part), "set") for part in [node.left] + node.comparators}
    faults = []
    for node in ast.walk(tree):
        if called_name(node) in WALKED and (id(node), "walk") not in allowed:
            faults.append("L23: what is not walked at once")
        if (called_name(node) == "set" or isinstance(node, ast.Set)) and (id(node), "set") not in allowed:
            faults.append("L24: a set that is kept")
    return faults


def keyword_faults(node):
    if not isinstance(node, ast.Call) or called_name(node) not in OWN_NAMES:
        return []
    allowed = KEYWORDS.get(called_name(node), ())
    return [f"L22: the keyword {word.arg}" for word in node.keywords if word.arg not in allowed]


# The files that each file draws from, the ones further off too.
def drawn_from(texts):
    near = {}
    for name, text in texts.items():
        rows = [row for row in ast.parse(text).body if isinstance(row, ast.ImportFrom)]
        near[name] = {row.module.split(".")[-1] for row in rows}
    far = {name: set(names) for name, names in near.items()}
    for _ in near:
        far = {name: names.union(*(far.get(each, set()) for each in names)) for name, names in far.items()}
    return far


def method_faults(tree):
    own = {node.name for node in ast.walk(tree) if isinstance(node, ast.FunctionDef)} | METHODS | TWO_UNDERSCORES
    calls = [node.func for node in ast.walk(tree) if isinstance(node, ast.Call)]
    called = [func.attr for func in calls if isinstance(func, ast.Attribute)]
    return [f"L25: the method {name}" for name in called if name not in own]


def faults_of(text):
    tree = ast.parse(text)
    faults = text_faults(text) + import_faults(tree) + top_faults(tree) + method_faults(tree)
    faults += binding_faults(tree) + walk_faults(tree)
    for node in ast.walk(tree):
        faults += form_faults(node) + def_faults(node) + name_faults(node) + value_faults(node) + keyword_faults(node)
    return faults


class ThePackage(unittest.TestCase):
    def test_only_plainly_named_files_of_python_lie_in_it(self):
        names = [path.name for path in PACKAGE.iterdir() if path.name != "__pycache__"]
        self.assertIn("__init__.py", names)
        for name in names:
            with self.subTest(name=name):
                self.assertRegex(name, r"^(__init__|[a-z][a-z0-9_]*)\.py$")

    def test_each_file_keeps_to_the_rules(self):
        for path in sorted(PACKAGE.glob("*.py")):
            with self.subTest(file=path.name):
                self.assertEqual(faults_of(path.read_bytes().decode("utf-8")), [])


    def test_no_two_files_draw_from_one_another(self):
        texts = {path.stem: path.read_text("utf-8") for path in PACKAGE.glob("*.py")}
        for name, names in drawn_from(texts).items():
            with self.subTest(name=name):
                self.assertNotIn(name, names)


class TheRules(unittest.TestCase):
    def test_files_that_draw_from_one_another_are_found(self):
        texts = {
            "one": "from figuretape.two import a\n", "two": "from figuretape.three import b\n",
            "three": "from figuretape.one import c\n", "four": "from figuretape.one import c\n",
        }
        far = drawn_from(texts)
        self.assertEqual([name for name in far if name in far[name]], ["one", "two", "three"])

    def test_code_within_the_rules_has_no_fault(self):
        good = (
            '"""Words."""\n\nfrom figuretape.errors import BadBase\n\nLEAST = 2\n\n\n'
            "def checked(base, found=None):\n    if base < LEAST:\n        raise BadBase('words')\n"
            "    rows = [row for row in range(base) if row % 2 == 0]\n    rows.append(base ** 2)\n"
            "    for row in reversed(rows):\n        if row in set(rows) and found is None:\n"
            "            found = max(row, LEAST)\n    return (list(enumerate(rows, start=1)), sorted(set(rows)))\n"
        )
        self.assertEqual(faults_of(good), [])

    def test_code_outside_the_rules_has_a_fault(self):
        bad = (
            "import time\n", "from random import random\n", "from figuretape import tapes\n",
            "from figuretape.errors import *\n", "from .errors import BadBase\n", "print(1)\n",
            "def f():\n    return open('x')\n", "def f():\n    from figuretape.errors import BadBase\n",
            "def f():\n    return 1 / 2\n", "def f():\n    return 1.5\n", "def f():\n    return b'x'\n",
            "def f(*args):\n    return args\n", "def f(x):\n    yield x\n", "def f(x):\n    assert x\n",
            "def f(x):\n    return (y for y in x)\n", "def f(x):\n    return {y for y in x}\n",
            "def f(x):\n    x.sort()\n", "def f(x):\n    del x[0]\n", "def f(x):\n    a = b = x\n    return a\n",
            "def f(x):\n    for y in x:\n        pass\n    else:\n        pass\n", "def f(_x):\n    return 1\n",
            "def f(id):\n    return id\n", "def sum(x):\n    return x\n", "def f(x):\n    max = x\n    return max\n",
            "class C:\n    x = 1\n", "class C(A, B):\n    pass\n", "# the type of it\n", "# \u00e9\n", "x = 1\t\n",
            "from figuretape.errors import BadBase\n\n\ndef f(BadBase):\n    return BadBase\n",
            "from figuretape.tapes import order\n\n\ndef f(x):\n    order = x\n    return order\n",
            "x = 1\nx = 2\n", "def f(x):\n    return x\n\n\ndef f(x):\n    return 1\n",
            "def f(x, y):\n    return x is y\n", "def f(x: int):\n    return x\n", "def f(x) -> int:\n    return x\n",
            "def f(n):\n    return 2 ** n\n", "def f(n):\n    return n ** 65\n", "def f():\n    return '%d'\n",
            "def f(x):\n    y = reversed(x)\n    return y\n", "def f(x):\n    return zip(x, reversed(x))\n",
            "def f(x):\n    return [y for y in zip(x, reversed(x))]\n", "def f(n):\n    return reversed(range(n))\n",
            "def f(x):\n    return x.items()\n", "def f(x):\n    y = set(x)\n    return y\n",
            "def f(x):\n    return [y for y in set(x)]\n", "def f(x):\n    return x.format\n",
            "def f(x):\n    return int(x, base=2)\n", "def f(x):\n    return chr(x)\n",
            "# " + "x" * 119 + "\n", "x = 1\n" * 401, "def f(x):\n" + "    x = 1\n" * 40,
        )
        for text in bad:
            with self.subTest(text=text[:60]):
                self.assertNotEqual(faults_of(text), [])


if __name__ == "__main__":
    unittest.main()
