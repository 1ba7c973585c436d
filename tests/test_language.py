"""The package keeps to the small part of Python that it is written in.

Only what can be seen in a file's text or tree is looked at; a rule's number stands ahead of each finding. What the
package has no need of, though the rules would allow it in some forms, is not looked at closer but found fault with:
try, lambda, annotations, keywords at calls, powers, escapes, written sets, lists and dicts at a file's top.
"""

import ast
import builtins
import pathlib
import re
import unittest

PACKAGE = pathlib.Path(__file__).resolve().parent.parent / "groupsnoop"

STATEMENTS = (
    ast.Assign, ast.AugAssign, ast.If, ast.While, ast.For, ast.Return, ast.Break, ast.Continue, ast.Pass, ast.Raise,
    ast.Expr, ast.FunctionDef, ast.ClassDef, ast.ImportFrom,
)
EXPRESSIONS = (
    ast.BoolOp, ast.BinOp, ast.UnaryOp, ast.IfExp, ast.Dict, ast.ListComp, ast.Compare, ast.Call,
    ast.FormattedValue, ast.JoinedStr, ast.Constant, ast.Attribute, ast.Subscript, ast.Name, ast.List, ast.Tuple,
    ast.Slice,
)
OWN_NAMES = set(
    "len range enumerate zip min max sum abs sorted reversed int str bool list tuple dict set frozenset isinstance "
    "ord repr any all divmod Exception ValueError TypeError KeyError IndexError LookupError ZeroDivisionError "
    "ArithmeticError OverflowError RuntimeError NotImplementedError AttributeError StopIteration".split()
)
OWN_METHODS = set(
    "append clear copy count endswith extend find get index insert isalnum isalpha isdigit islower isspace isupper "
    "items join keys ljust lower lstrip partition pop remove replace reverse rfind rjust rpartition rsplit rstrip "
    "setdefault split splitlines startswith strip update upper values zfill bit_length".split()
)
NO_WORDS = set(
    "type typing typing_extensions enum Enum IntEnum StrEnum Flag IntFlag Generic Protocol ABC ABCMeta namedtuple "
    "NamedTuple TypedDict TYPE_CHECKING abstractmethod".split()
)
NO_NAMES = set(
    "register mro elements open input version_info with_traceback add_note attrgetter breakpoint builtins compile "
    "copyright credits delattr dir eval exec exit gc getattr globals hasattr help id importlib license locals "
    "methodcaller os quit setattr super type vars sys format format_map".split()
)
DOUBLED = {"__init__"}
WALKED = {"zip", "enumerate", "reversed", "range", "items", "keys", "values"}
WALKERS = {"list", "tuple", "dict", "sorted", "sum", "any", "all", "enumerate", "zip"}
CHANGES = {"append", "clear", "extend", "insert", "pop", "remove", "reverse", "setdefault", "update"}
TAKEN = {name for kind in (str, int, list, dict, set, bytes, tuple) for name in dir(kind)}


def own_files():
    return sorted(PACKAGE.glob("*.py"))


def text_findings(text):
    lines = text.split("\n")
    found = [f"L14 sign {sign!r}" for sign in text if sign != "\n" and not " " <= sign <= "~"]
    found += [f"L10 line {place + 1} is too long" for place, line in enumerate(lines) if len(line) > 120]
    found += [f"L17 word {word}" for word in re.findall(r"\w+", text) if word in NO_WORDS]
    found += [f"L17 word {word}" for word in ("dataclass", "overload", "contextmanager") if word in text]
    if "\\" in text:
        found.append("L27 escape")
    if len(lines) > 401:
        found.append("L10 too many lines")
    return found


def is_plain(node, defined):
    if isinstance(node, ast.Tuple):
        return all(is_plain(part, defined) for part in node.elts)
    if isinstance(node, ast.UnaryOp):
        return isinstance(node.op, ast.USub) and is_plain(node.operand, defined)
    if isinstance(node, ast.Name):
        return node.id in defined
    return isinstance(node, ast.Constant)


def top_findings(tree):
    found = []
    bound = []
    functions = set()
    for place, node in enumerate(tree.body):
        if isinstance(node, ast.ImportFrom):
            bound += [name.asname or name.name for name in node.names]
        elif isinstance(node, (ast.FunctionDef, ast.ClassDef)):
            bound.append(node.name)
            functions.add(node.name)
        elif isinstance(node, ast.Assign) and len(node.targets) == 1 and is_plain(node.value, functions):
            bound.append(node.targets[0].id)
        elif place > 0 or ast.get_docstring(tree) is None:
            found.append(f"L3 line {node.lineno}")
    return found + [f"L15 {name} is bound twice" for name in set(bound) if bound.count(name) > 1]


def statement_findings(node, top):
    if not isinstance(node, STATEMENTS):
        return ["L6"]
    found = []
    if isinstance(node, ast.Expr) and not isinstance(node.value, ast.Call) and node not in top:
        found.append("L6 no call")
    if isinstance(node, ast.Assign) and (len(node.targets) > 1 or isinstance(node.targets[0], ast.Tuple)):
        found.append("L6 targets")
    if isinstance(node, (ast.For, ast.While)) and node.orelse:
        found.append("L6 else behind a loop")
    if isinstance(node, (ast.FunctionDef, ast.ClassDef)) and node.decorator_list:
        found.append("L4 decorator")
    if isinstance(node, ast.FunctionDef):
        if node.end_lineno - node.lineno >= 40:
            found.append("L10 too long a function")
        if node.args.vararg or node.args.kwarg or node.args.kwonlyargs or node.returns:
            found.append("L4 parameters")
        if node.name == "__init__" and any(isinstance(part, ast.Return) for part in ast.walk(node)):
            found.append("L28 return")
    if isinstance(node, ast.ClassDef) and (len(node.bases) > 1 or node.keywords):
        found.append("L5 bases")
    if isinstance(node, ast.ImportFrom) and (node.level or not node.module.startswith("groupsnoop.")):
        found.append("L2 import")
    return found


def expression_findings(node):
    if not isinstance(node, EXPRESSIONS):
        return ["L7"]
    found = []
    if isinstance(node, ast.BinOp) and isinstance(node.op, (ast.Div, ast.MatMult, ast.Pow)):
        found.append("L7 operator")
    if isinstance(node, ast.Constant) and isinstance(node.value, (float, bytes, complex)):
        found.append("L7 value")
    if isinstance(node, ast.Constant) and isinstance(node.value, str) and "%" in node.value:
        found.append("L27 sign")
    if isinstance(node, ast.Name) and hasattr(builtins, node.id) and node.id not in OWN_NAMES:
        found.append(f"L8 {node.id}")
    if isinstance(node, ast.Call) and node.keywords:
        found.append("L22 keyword")
    if isinstance(node, ast.ListComp) and (len(node.generators) > 1 or len(node.generators[0].ifs) > 1):
        found.append("L7 comprehension")
    if isinstance(node, ast.Compare):
        sides = [node.left] + node.comparators
        if any(isinstance(op, (ast.Is, ast.IsNot)) for op in node.ops):
            if not any(isinstance(side, ast.Constant) and side.value in (None, True, False) for side in sides):
                found.append("L20 is")
    return found


def name_findings(node):
    names = []
    if isinstance(node, ast.Name):
        names.append(node.id)
    elif isinstance(node, (ast.FunctionDef, ast.ClassDef)):
        names.append(node.name)
    elif isinstance(node, ast.arg):
        names.append(node.arg)
        if hasattr(builtins, node.arg) or node.annotation:
            return [f"L15 or L21 {node.arg}"]
    elif isinstance(node, ast.Attribute):
        names.append(node.attr)
    found = [f"L12 {name}" for name in names if name.startswith("_") and name not in DOUBLED]
    return found + [f"L17 {name}" for name in names if name in NO_NAMES]


def called_name(node):
    """The name or method that is called here, if it is a call."""
    if not isinstance(node, ast.Call):
        return None
    return node.func.attr if isinstance(node.func, ast.Attribute) else getattr(node.func, "id", None)


def parents_in(tree):
    return {part: node for node in ast.walk(tree) for part in ast.iter_child_nodes(node)}


def is_walked(node, parents):
    parent = parents[node]
    if isinstance(parent, (ast.For, ast.comprehension)):
        return parent.iter is node
    name = called_name(parent)
    if name in ("min", "max"):
        return parent.args == [node]
    return name in WALKERS and isinstance(parent.func, ast.Name) and parent.args[0] is node


def is_set_in_place(node, parents):
    parent = parents[node]
    if isinstance(parent, ast.BinOp) and isinstance(parent.op, (ast.Sub, ast.BitAnd, ast.BitOr, ast.BitXor)):
        return is_set_in_place(parent, parents)
    if isinstance(parent, ast.Compare):
        return all(isinstance(op, (ast.In, ast.NotIn, ast.Eq, ast.NotEq)) for op in parent.ops)
    return called_name(parent) in ("sorted", "len") and parent.args == [node]


def loop_findings(loop):
    """What is walked as it stands must not be changed in the loop's body."""
    walked = ast.unparse(loop.iter)
    for node in (part for statement in loop.body for part in ast.walk(statement)):
        if called_name(node) in CHANGES and isinstance(node.func, ast.Attribute):
            if ast.unparse(node.func.value) == walked:
                return ["L23 changed while it is walked"]
        if isinstance(node, ast.Subscript) and isinstance(node.ctx, ast.Store) and ast.unparse(node.value) == walked:
            return ["L23 changed while it is walked"]
    return []


def place_findings(node, parents, classes):
    """Faults that show in where something stands."""
    parent = parents.get(node)
    if called_name(node) in WALKED and not is_walked(node, parents):
        return ["L23 kept"]
    if called_name(node) in ("set", "frozenset") and not is_set_in_place(node, parents):
        return ["L24"]
    if isinstance(node, ast.For):
        return loop_findings(node)
    if isinstance(node, ast.Attribute) and node.attr in OWN_METHODS and getattr(parent, "func", None) is not node:
        return ["L25 handed on"]
    if not isinstance(node, ast.Name) or isinstance(parent, (ast.ClassDef, ast.Raise)):
        return []
    if isinstance(node.ctx, ast.Store):
        return [f"L15 {node.id}"] if node.id in classes or hasattr(builtins, node.id) else []
    beside = called_name(parent) == "isinstance" or getattr(parent, "func", None) is node
    return [f"L18 or L22 {node.id}"] if (node.id in classes or node.id in OWN_NAMES) and not beside else []


def import_findings(tree):
    drawn = {name.name for node in tree.body if isinstance(node, ast.ImportFrom) for name in node.names}
    bound = {node.arg for node in ast.walk(tree) if isinstance(node, ast.arg)}
    bound |= {node.id for node in ast.walk(tree) if isinstance(node, ast.Name) and isinstance(node.ctx, ast.Store)}
    return [f"L15 {name} is an import" for name in sorted(drawn & bound)]


def tree_findings(tree):
    found = top_findings(tree) + import_findings(tree)
    parents = parents_in(tree)
    # A class is known by its capital letter, wherever it was drawn from.
    classes = {name.id for name in ast.walk(tree) if isinstance(name, ast.Name) and name.id[0].isupper()}
    classes = {name for name in classes if not name.isupper()}
    for node in ast.walk(tree):
        here = name_findings(node) + place_findings(node, parents, classes)
        if isinstance(node, ast.stmt):
            here += statement_findings(node, tree.body)
        elif isinstance(node, ast.expr):
            here += expression_findings(node)
        found += [f"{finding} at line {getattr(node, 'lineno', 0)}" for finding in here]
    return found


def methods_and_values(trees):
    methods = set()
    values = set()
    for tree in trees:
        for node in ast.walk(tree):
            if isinstance(node, ast.ClassDef):
                methods |= {part.name for part in node.body if isinstance(part, ast.FunctionDef)}
            if isinstance(node, ast.Attribute) and isinstance(node.ctx, ast.Store):
                values.add(node.attr)
    return methods - DOUBLED, values


class Language(unittest.TestCase):
    def setUp(self):
        self.trees = {path.stem: ast.parse(path.read_text()) for path in own_files()}

    def test_only_files_with_plain_names(self):
        self.assertIn("__init__", self.trees)
        for path in PACKAGE.iterdir():
            if path.name != "__pycache__":
                self.assertRegex(path.name, r"\A([a-z][a-z0-9_]*|__init__|__main__)\.py\Z")
                self.assertFalse(path.stem in set(dir(builtins)) - {"__init__"}, path.name)
                self.assertFalse(path.stem.startswith("test"), path.name)

    def test_each_file(self):
        for path in own_files():
            with self.subTest(file=path.name):
                self.assertEqual(text_findings(path.read_text()) + tree_findings(self.trees[path.stem]), [])

    def test_imports_name_what_the_file_defines_and_make_no_ring(self):
        drawn = {}
        for stem, tree in self.trees.items():
            drawn[stem] = set()
            for node in tree.body:
                if isinstance(node, ast.ImportFrom):
                    source = node.module.removeprefix("groupsnoop.")
                    drawn[stem].add(source)
                    defined = {getattr(part, "name", None) for part in self.trees[source].body}
                    defined |= {part.targets[0].id for part in self.trees[source].body if isinstance(part, ast.Assign)}
                    self.assertLessEqual({name.name for name in node.names}, defined)
        self.assertEqual(drawn["__init__"], set())
        while drawn:
            free = [stem for stem in drawn if not drawn[stem] & set(drawn)]
            self.assertNotEqual(free, [], drawn)
            for stem in free:
                drawn.pop(stem)

    def test_methods_and_values(self):
        methods, values = methods_and_values(self.trees.values())
        self.assertEqual(methods & values, set())
        self.assertEqual((methods | values) & TAKEN, set())
        for stem, tree in self.trees.items():
            for node in ast.walk(tree):
                if isinstance(node, ast.Call) and isinstance(node.func, ast.Attribute):
                    self.assertIn(node.func.attr, OWN_METHODS | methods | {"__init__"}, stem)


class TheLookItself(unittest.TestCase):
    def test_it_finds_what_is_not_allowed(self):
        for text in (
            "x = 1 / 2", "import os", "x = 1\nx = 2", "def f(*a):\n    pass", "def f():\n    with x:\n        pass",
            "def f():\n    return {k: 1 for k in []}", "def f(id):\n    pass", "def f():\n    return eval",
            "def f():\n    a, b = 1, 2", "def f():\n    \"a text\"", "def f(x):\n    return x is 3", "f()",
            "def f():\n" + "    f()\n" * 40, "x = [1]", "x = {}", "def f(x: int):\n    pass",
            "def f():\n    try:\n        f()\n    except KeyError:\n        pass", "def f(x):\n    return 2 ** x",
            "def f(x):\n    y = range(x)", "def f(x):\n    return x.items()", "def f(x):\n    return min(range(x), 3)",
            "def f(x):\n    y = set(x)", "def f(x):\n    return list(set(x))", "def f(x):\n    return {1, 2, 3}",
            "def f(x):\n    for y in set(x):\n        f(y)", "def f(x):\n    return sorted(x, reverse=True)",
            "def f(x):\n    for y in x:\n        x.append(y)", "def f(x):\n    for y in x:\n        x[y] = 1",
            "def f(x):\n    return x.append", "def f():\n    return len", "def f():\n    id = 3",
            "class Kind:\n    pass\ndef f():\n    return Kind",
            "class C:\n    def __init__(self):\n        return None",
            "class C:\n    def __eq__(self, other):\n        return True",
            "from groupsnoop.a import b\ndef f(b):\n    pass", "from groupsnoop.a import b\ndef f():\n    b = 1",
            "def f(x):\n    return [y for y in x if y if x]", "def f(x):\n    return [y for z in x for y in z]",
        ):
            with self.subTest(text=text):
                self.assertNotEqual(tree_findings(ast.parse(text)), [])
        for text in ("\t", "x" * 121, "# the type of it", "\n" * 401, "# \xe9", "x = '\\x41'"):
            with self.subTest(text=text):
                self.assertNotEqual(text_findings(text), [])

    def test_it_finds_no_fault_with_what_is_allowed(self):
        for text in (
            "def f(x):\n    return [y for y in range(x) if y > 2]", "def f(x):\n    return sorted(set(x) - set([1]))",
            "def f(x):\n    return 3 in set(x)", "def f(x):\n    for y in list(x):\n        x.pop(y)",
            "def f(x):\n    return max(range(x))", "def f(x):\n    return list(x.items())", "x = (1, (2, 'a'))",
            "class Kind:\n    pass\ndef f(x):\n    return isinstance(x, Kind) or Kind()",
            "def f(x):\n    return set(x) == set([])",
        ):
            with self.subTest(text=text):
                self.assertEqual(tree_findings(ast.parse(text)), [])
