"""The package keeps to the small part of Python that it is written in.

Only what can be seen in a file's text or tree is looked at; a rule's number stands ahead of each finding.
"""

import ast
import builtins
import pathlib
import re
import unittest

PACKAGE = pathlib.Path(__file__).resolve().parent.parent / "groupsnoop"

STATEMENTS = (
    ast.Assign, ast.AugAssign, ast.If, ast.While, ast.For, ast.Return, ast.Break, ast.Continue, ast.Pass, ast.Raise,
    ast.Try, ast.Expr, ast.FunctionDef, ast.ClassDef, ast.ImportFrom,
)
EXPRESSIONS = (
    ast.BoolOp, ast.BinOp, ast.UnaryOp, ast.Lambda, ast.IfExp, ast.Dict, ast.Set, ast.ListComp, ast.Compare, ast.Call,
    ast.FormattedValue, ast.JoinedStr, ast.Constant, ast.Attribute, ast.Subscript, ast.Name, ast.List, ast.Tuple,
    ast.Slice,
)
OWN_NAMES = set(
    "len range enumerate zip min max sum abs sorted reversed int str bool list tuple dict set frozenset isinstance "
    "ord repr any all divmod Exception ValueError TypeError KeyError IndexError LookupError ZeroDivisionError "
    "ArithmeticError OverflowError RuntimeError NotImplementedError AttributeError StopIteration".split()
)
OWN_METHODS = set(
    "append clear copy count endswith extend find get index insert isalnum isalpha isdigit islower isspace isupper "
    "items join keys ljust lower lstrip partition pop remove replace reverse rfind rjust rpartition rsplit rstrip "
    "setdefault split splitlines startswith strip update upper values zfill bit_length".split()
)
NO_WORDS = set(
    "type typing typing_extensions enum Enum IntEnum StrEnum Flag IntFlag Generic Protocol ABC ABCMeta namedtuple "
    "NamedTuple TypedDict TYPE_CHECKING abstractmethod".split()
)
NO_NAMES = set(
    "register mro elements open input version_info with_traceback add_note attrgetter breakpoint builtins compile "
    "copyright credits delattr dir eval exec exit gc getattr globals hasattr help id importlib license locals "
    "methodcaller os quit setattr super type vars sys format format_map".split()
)
DOUBLED = {"__init__", "__eq__", "__repr__", "__str__", "__len__"}
TAKEN = {name for kind in (str, int, list, dict, set, bytes, tuple) for name in dir(kind)}


def own_files():
    return sorted(PACKAGE.glob("*.py"))


def text_findings(text):
    lines = text.split("\n")
    found = [f"L14 sign {sign!r}" for sign in text if sign != "\n" and not " " <= sign <= "~"]
    found += [f"L10 line {place + 1} is too long" for place, line in enumerate(lines) if len(line) > 120]
    found += [f"L17 word {word}" for word in re.findall(r"\w+", text) if word in NO_WORDS]
    found += [f"L17 word {word}" for word in ("dataclass", "overload", "contextmanager") if word in text]
    if len(lines) > 401:
        found.append("L10 too many lines")
    return found


def is_plain(node, defined):
    if isinstance(node, (ast.List, ast.Tuple)):
        return all(is_plain(part, defined) for part in node.elts)
    if isinstance(node, ast.Dict):
        return all(is_plain(part, defined) for part in node.keys + node.values)
    if isinstance(node, ast.UnaryOp):
        return isinstance(node.op, ast.USub) and is_plain(node.operand, defined)
    if isinstance(node, ast.Name):
        return node.id in defined
    return isinstance(node, ast.Constant)


def top_findings(tree):
    found = []
    bound = []
    functions = set()
    for place, node in enumerate(tree.body):
        if isinstance(node, ast.ImportFrom):
            bound += [name.asname or name.name for name in node.names]
        elif isinstance(node, (ast.FunctionDef, ast.ClassDef)):
            bound.append(node.name)
            functions.add(node.name)
        elif isinstance(node, ast.Assign) and len(node.targets) == 1 and is_plain(node.value, functions):
            bound.append(node.targets[0].id)
        elif place > 0 or ast.get_docstring(tree) is None:
            found.append(f"L3 line {node.lineno}")
    return found + [f"L15 {name} is bound twice" for name in set(bound) if bound.count(name) > 1]


def statement_findings(node, top):
    if not isinstance(node, STATEMENTS):
        return ["L6"]
    found = []
    if isinstance(node, ast.Expr) and not isinstance(node.value, ast.Call) and node not in top:
        found.append("L6 no call")
    if isinstance(node, ast.Assign) and (len(node.targets) > 1 or isinstance(node.targets[0], ast.Tuple)):
        found.append("L6 targets")
    if isinstance(node, (ast.For, ast.While)) and node.orelse:
        found.append("L6 else behind a loop")
    if isinstance(node, ast.Try) and node.finalbody:
        found.append("L6 finally")
    if isinstance(node, (ast.FunctionDef, ast.ClassDef)) and node.decorator_list:
        found.append("L4 decorator")
    if isinstance(node, ast.FunctionDef):
        if node.end_lineno - node.lineno >= 40:
            found.append("L10 too long a function")
        if node.args.vararg or node.args.kwarg or node.args.kwonlyargs or node.returns:
            found.append("L4 parameters")
    if isinstance(node, ast.ClassDef) and (len(node.bases) > 1 or node.keywords):
        found.append("L5 bases")
    if isinstance(node, ast.ImportFrom) and (node.level or not node.module.startswith("groupsnoop.")):
        found.append("L2 import")
    return found


def expression_findings(node):
    if not isinstance(node, EXPRESSIONS):
        return ["L7"]
    found = []
    if isinstance(node, ast.BinOp) and isinstance(node.op, (ast.Div, ast.MatMult)):
        found.append("L7 operator")
    if isinstance(node, ast.Constant) and isinstance(node.value, (float, bytes, complex)):
        found.append("L7 value")
    if isinstance(node, ast.Constant) and isinstance(node.value, str) and "%" in node.value:
        found.append("L27 sign")
    if isinstance(node, ast.Name) and hasattr(builtins, node.id) and node.id not in OWN_NAMES:
        found.append(f"L8 {node.id}")
    if isinstance(node, ast.Compare):
        sides = [node.left] + node.comparators
        if any(isinstance(op, (ast.Is, ast.IsNot)) for op in node.ops):
            if not any(isinstance(side, ast.Constant) and side.value in (None, True, False) for side in sides):
                found.append("L20 is")
    return found


def name_findings(node):
    names = []
    if isinstance(node, ast.Name):
        names.append(node.id)
    elif isinstance(node, (ast.FunctionDef, ast.ClassDef)):
        names.append(node.name)
    elif isinstance(node, ast.arg):
        names.append(node.arg)
        if hasattr(builtins, node.arg):
            return [f"L15 {node.arg}"]
    elif isinstance(node, ast.Attribute):
        names.append(node.attr)
    found = [f"L12 {name}" for name in names if name.startswith("_") and name not in DOUBLED]
    return found + [f"L17 {name}" for name in names if name in NO_NAMES]


def tree_findings(tree):
    found = top_findings(tree)
    for node in ast.walk(tree):
        here = name_findings(node)
        if isinstance(node, ast.stmt):
            here += statement_findings(node, tree.body)
        elif isinstance(node, ast.expr):
            here += expression_findings(node)
        found += [f"{finding} at line {getattr(node, 'lineno', 0)}" for finding in here]
    return found


def methods_and_values(trees):
    methods = set()
    values = set()
    for tree in trees:
        for node in ast.walk(tree):
            if isinstance(node, ast.ClassDef):
                methods |= {part.name for part in node.body if isinstance(part, ast.FunctionDef)}
            if isinstance(node, ast.Attribute) and isinstance(node.ctx, ast.Store):
                values.add(node.attr)
    return methods - DOUBLED, values


class Language(unittest.TestCase):
    def setUp(self):
        self.trees = {path.stem: ast.parse(path.read_text()) for path in own_files()}

    def test_only_files_with_plain_names(self):
        self.assertIn("__init__", self.trees)
        for path in PACKAGE.iterdir():
            if path.name != "__pycache__":
                self.assertRegex(path.name, r"\A([a-z][a-z0-9_]*|__init__|__main__)\.py\Z")
                self.assertFalse(path.stem in set(dir(builtins)) - {"__init__"}, path.name)
                self.assertFalse(path.stem.startswith("test"), path.name)

    def test_each_file(self):
        for path in own_files():
            with self.subTest(file=path.name):
                self.assertEqual(text_findings(path.read_text()) + tree_findings(self.trees[path.stem]), [])

    def test_imports_name_what_the_file_defines_and_make_no_ring(self):
        drawn = {}
        for stem, tree in self.trees.items():
            drawn[stem] = set()
            for node in tree.body:
                if isinstance(node, ast.ImportFrom):
                    source = node.module.removeprefix("groupsnoop.")
                    drawn[stem].add(source)
                    defined = {getattr(part, "name", None) for part in self.trees[source].body}
                    defined |= {part.targets[0].id for part in self.trees[source].body if isinstance(part, ast.Assign)}
                    self.assertLessEqual({name.name for name in node.names}, defined)
        self.assertEqual(drawn["__init__"], set())
        while drawn:
            free = [stem for stem in drawn if not drawn[stem] & set(drawn)]
            self.assertNotEqual(free, [], drawn)
            for stem in free:
                drawn.pop(stem)

    def test_methods_and_values(self):
        methods, values = methods_and_values(self.trees.values())
        self.assertEqual(methods & values, set())
        self.assertEqual((methods | values) & TAKEN, set())
        for stem, tree in self.trees.items():
            for node in ast.walk(tree):
                if isinstance(node, ast.Call) and isinstance(node.func, ast.Attribute):
                    self.assertIn(node.func.attr, OWN_METHODS | methods | {"__init__"}, stem)


class TheLookItself(unittest.TestCase):
    def test_it_finds_what_is_not_allowed(self):
        for text in (
            "x = 1 / 2", "import os", "x = 1\nx = 2", "def f(*a):\n    pass", "def f():\n    with x:\n        pass",
            "def f():\n    return {k: 1 for k in []}", "def f(id):\n    pass", "def f():\n    return eval",
            "def f():\n    a, b = 1, 2", "def f():\n    \"a text\"", "def f(x):\n    return x is 3", "f()",
            "def f():\n" + "    f()\n" * 40,
        ):
            with self.subTest(text=text):
                self.assertNotEqual(tree_findings(ast.parse(text)), [])
        for text in ("\t", "x" * 121, "# the type of it", "\n" * 401, "# \xe9"):
            with self.subTest(text=text):
                self.assertNotEqual(text_findings(text), [])
