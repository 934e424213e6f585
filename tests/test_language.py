"""Holds the package's files to the rules of LANGUAGE.md that can be seen from the text alone."""

import ast
import builtins
import pathlib
import re
import unittest

PACKAGE = pathlib.Path(__file__).resolve().parent.parent / "cagebells"

NODES = tuple(getattr(ast, name) for name in """
Module FunctionDef ClassDef arguments arg Assign AugAssign If While For Return Break Continue Pass Raise Try
ExceptHandler Expr Call ImportFrom alias Name Attribute Subscript Slice Constant List Tuple Dict Set Load Store
BinOp UnaryOp BoolOp Compare IfExp Lambda ListComp comprehension JoinedStr FormattedValue keyword
operator unaryop boolop cmpop
""".split())

OWN_NAMES = set("""
len range enumerate zip min max sum abs sorted reversed int str bool list tuple dict set frozenset isinstance ord
repr any all divmod Exception ValueError TypeError KeyError IndexError LookupError ZeroDivisionError ArithmeticError
OverflowError RuntimeError NotImplementedError AttributeError StopIteration
""".split())

OWN_METHODS = set("""
append clear copy count endswith extend find get index insert isalnum isalpha isdigit islower isspace isupper items
join keys ljust lower lstrip partition pop remove replace reverse rfind rjust rpartition rsplit rstrip setdefault
split splitlines startswith strip update upper values zfill bit_length
""".split())

DUNDERS = {"__init__", "__eq__", "__repr__", "__str__", "__len__"}

WORDS = re.compile(
    r"\b(type|typing|typing_extensions|enum|Enum|IntEnum|StrEnum|Flag|IntFlag|Generic|Protocol|ABC|ABCMeta"
    r"|namedtuple|NamedTuple|TypedDict|TYPE_CHECKING|abstractmethod)\b|dataclass|overload|contextmanager")

UNUSED = {"register", "mro", "elements", "open", "input", "version_info", "with_traceback", "add_note", "format",
          "format_map"}

KEYWORDS = {"sorted": ("key", "reverse"), "min": ("key", "default"), "max": ("key", "default"), "sum": ("start",),
            "enumerate": ("start",), "zip": ("strict",)}
WALKED_NAMES = ("zip", "enumerate", "reversed", "range")
WALKED_METHODS = ("items", "keys", "values")
WALKERS = ("list", "tuple", "dict", "sorted", "sum", "any", "all", "enumerate", "zip", "min", "max")

PYTHONS_OWN = set().union(*(dir(kind) for kind in (str, int, bool, list, tuple, dict, set, frozenset, bytes)))
FREE_METHODS = OWN_METHODS | DUNDERS | {"add", "discard"}
FREE_VALUES = set("count index title find get join lower upper split strip copy add".split())


def names_in(tree):
    for node in ast.walk(tree):
        for field in ("id", "name", "arg", "attr", "asname"):
            value = getattr(node, field, None)
            if isinstance(value, str) and not isinstance(node, ast.alias):
                yield node, value


def own_attributes(trees):
    found = set()
    for tree in trees:
        for node in ast.walk(tree):
            if isinstance(node, ast.FunctionDef):
                found.add(node.name)
            if isinstance(node, ast.Attribute) and isinstance(node.ctx, ast.Store):
                found.add(node.attr)
    return found


def faults_of_text(text):
    lines = text.split("\n")
    if len(lines) > 401:
        yield "L10", 401
    for number, line in enumerate(lines, 1):
        if len(line) > 120:
            yield "L10", number
        if not all(" " <= sign <= "~" for sign in line):
            yield "L14", number
        if WORDS.search(line):
            yield "L17", number


def faults_of_node(node, docstrings):
    if not isinstance(node, NODES):
        yield "L6/L7 " + node.__class__.__name__
    if isinstance(node, ast.Expr) and not isinstance(node.value, ast.Call) and id(node) not in docstrings:
        yield "L6 expression by itself"
    if isinstance(node, ast.Assign) and len(node.targets) != 1:
        yield "L6 targets"
    if isinstance(node, (ast.For, ast.While)) and node.orelse:
        yield "L6 else behind a loop"
    if isinstance(node, ast.Try) and node.finalbody:
        yield "L6 finally"
    if isinstance(node, (ast.Div, ast.MatMult)):
        yield "L7 operator"
    if isinstance(node, ast.Constant) and not isinstance(node.value, (int, str, bool, type(None))):
        yield "L7 value"
    if isinstance(node, ast.ListComp) and (len(node.generators) > 1 or len(node.generators[0].ifs) > 1):
        yield "L7 comprehension"
    if isinstance(node, ast.FunctionDef):
        plain = node.args
        if plain.vararg or plain.kwarg or plain.kwonlyargs or plain.posonlyargs or node.decorator_list:
            yield "L4"
        if node.end_lineno - node.lineno + 1 > 40:
            yield "L10"
    if isinstance(node, ast.ClassDef):
        if len(node.bases) > 1 or node.keywords or node.decorator_list:
            yield "L5"
        if not all(isinstance(part, (ast.FunctionDef, ast.Pass)) for part in node.body):
            yield "L5"
    if isinstance(node, ast.ImportFrom) and (node.level or not node.module.startswith("cagebells.")):
        yield "L2"
    if isinstance(node, ast.Compare) and any(isinstance(sign, (ast.Is, ast.IsNot)) for sign in node.ops):
        if not isinstance(node.comparators[0], ast.Constant):
            yield "L20"


def faults_of_names(tree, attributes):
    for node, name in names_in(tree):
        if name.startswith("_") and name not in DUNDERS:
            yield "L12 " + name, node.lineno
        if name in UNUSED:
            yield "L17 " + name, node.lineno
        if isinstance(node, ast.Name) and hasattr(builtins, name) and name not in OWN_NAMES:
            yield "L8 " + name, node.lineno
        bound = isinstance(node, ast.arg) or isinstance(node, ast.Name) and isinstance(node.ctx, ast.Store)
        if bound and hasattr(builtins, name):
            yield "L15 " + name, node.lineno
        if isinstance(node, ast.Attribute) and name not in attributes and name not in OWN_METHODS | DUNDERS:
            yield "L25 " + name, node.lineno


def faults_of_bound_names(tree):
    taken = {part.name for part in tree.body if isinstance(part, ast.ClassDef)}
    for part in tree.body:
        if isinstance(part, ast.ImportFrom):
            taken.update(name.asname or name.name for name in part.names)
    for node in ast.walk(tree):
        name = node.arg if isinstance(node, ast.arg) else None
        if isinstance(node, ast.Name) and isinstance(node.ctx, ast.Store):
            name = node.id
        if name in taken:
            yield "L15 " + name, node.lineno


def faults_of_calls(tree):
    above = {id(part): node for node in ast.walk(tree) for part in ast.iter_child_nodes(node)}
    for node in ast.walk(tree):
        if not isinstance(node, ast.Call):
            continue
        name = getattr(node.func, "id", getattr(node.func, "attr", None))
        theirs = name in OWN_NAMES | OWN_METHODS
        if theirs and any(part.arg not in KEYWORDS.get(name, ()) for part in node.keywords):
            yield "L22 " + name, node.lineno
        walked = WALKED_NAMES if isinstance(node.func, ast.Name) else WALKED_METHODS
        holder = above[id(node)]
        if name in walked and getattr(holder, "iter", None) is not node:
            within = isinstance(holder, ast.Call) and holder.args[0] is node
            if not within or getattr(holder.func, "id", None) not in WALKERS:
                yield "L23 " + name, node.lineno
        if isinstance(node.func, ast.Name) and name == "set" and isinstance(holder, (ast.Assign, ast.For, ast.Return)):
            yield "L24", node.lineno


def faults(text, attributes):
    found = list(faults_of_text(text))
    tree = ast.parse(text)
    found.extend(faults_of_bound_names(tree))
    found.extend(faults_of_calls(tree))
    docstrings = {id(tree.body[0])} if ast.get_docstring(tree) is not None else set()
    for node in ast.walk(tree):
        for fault in faults_of_node(node, docstrings):
            found.append((fault, getattr(node, "lineno", 0)))
    found.extend(faults_of_names(tree, attributes))
    return found


class LanguageTest(unittest.TestCase):
    def test_only_plain_files_lie_in_the_package(self):
        for path in sorted(PACKAGE.iterdir()):
            if path.name != "__pycache__":
                self.assertRegex(path.name, r"^([a-z][a-z0-9_]*|__init__|__main__)\.py$")
                self.assertFalse(path.name.startswith("test"))

    def test_each_file_keeps_to_the_rules(self):
        texts = {path.name: path.read_text("utf-8") for path in sorted(PACKAGE.glob("*.py"))}
        self.assertIn("__init__.py", texts)
        attributes = own_attributes([ast.parse(text) for text in texts.values()])
        for name, text in texts.items():
            with self.subTest(name=name):
                self.assertEqual(faults(text, attributes), [])

    def test_no_name_is_a_method_and_a_value(self):
        methods = set()
        values = set()
        for path in sorted(PACKAGE.glob("*.py")):
            for node in ast.walk(ast.parse(path.read_text("utf-8"))):
                if isinstance(node, ast.ClassDef):
                    methods.update(part.name for part in node.body if isinstance(part, ast.FunctionDef))
                if isinstance(node, ast.Attribute) and isinstance(node.ctx, ast.Store):
                    values.add(node.attr)
        self.assertEqual(methods & values, set())
        self.assertEqual(methods & PYTHONS_OWN - FREE_METHODS, set())
        self.assertEqual(values & PYTHONS_OWN - FREE_VALUES, set())

    def test_no_two_files_draw_from_one_another(self):
        trees = {path.stem: ast.parse(path.read_text("utf-8")) for path in sorted(PACKAGE.glob("*.py"))}
        drawn = {}
        for name, tree in trees.items():
            rows = [part for part in tree.body if isinstance(part, ast.ImportFrom)]
            drawn[name] = {row.module.split(".")[-1] for row in rows}
            for row in rows:
                defined = {getattr(part, "name", None) for part in trees[row.module.split(".")[-1]].body}
                defined |= {part.targets[0].id for part in trees[row.module.split(".")[-1]].body
                            if isinstance(part, ast.Assign)}
                self.assertLessEqual({part.name for part in row.names}, defined, name)
        while drawn:
            free = [name for name, others in drawn.items() if not others & set(drawn)]
            self.assertTrue(free, drawn)
            for name in free:
                del drawn[name]

    def test_a_breach_is_seen(self):
        breaches = (
            "x = 1.5", "x = 3 / 2", "import os", "from os import path", "from .drum import level_at",
            "def f(*xs):\n    pass", "def f():\n    global x", "x = y = 1", "x = {k: k for k in ()}",
            "def f(x):\n    return hash(x)", "def f(xs):\n    xs.sort()", "def f(list):\n    pass",
            "def f(_):\n    pass", "# a type", "x = '\u00e4'", "def f():\n    assert True",
            "def f():\n" + "    pass\n" * 40, "x = '" + "a" * 120 + "'", "class A:\n    x = 1",
            "def f(a, b):\n    return a is b", "def f(n):\n    (n)", "x = [a for b in () for a in b]",
            "def f(xs):\n    for x in xs:\n        pass\n    else:\n        pass", "x = 1\t",
            "class A:\n    pass\n\n\ndef f(A):\n    pass", "def f(xs):\n    return zip(xs, xs)",
            "from cagebells.drum import level_at\n\n\ndef f():\n    level_at = 1", "def f(xs):\n    return xs.index(start=1)",
            "def f(xs):\n    return list(reversed(range(3)))", "def f(xs):\n    ys = set(xs)",
        )
        for text in breaches:
            with self.subTest(text=text):
                self.assertNotEqual(faults(text, set()), [])


if __name__ == "__main__":
    unittest.main()
