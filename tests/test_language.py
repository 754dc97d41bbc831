"""The package keeps to its small part of Python: those rules that can be seen in a file's own syntax tree.

Not all of the rules are looked for here; the numbers are those of the rules that are.
"""

import ast
import builtins
import pathlib
import re
import unittest

PACKAGE = pathlib.Path(__file__).resolve().parent.parent / "wakefew"

STATEMENTS = (
    ast.Assign, ast.AugAssign, ast.If, ast.While, ast.For, ast.Return, ast.Break, ast.Continue, ast.Pass,
    ast.Raise, ast.Try, ast.Expr, ast.FunctionDef, ast.ClassDef, ast.ImportFrom,
)
EXPRESSIONS = (
    ast.BoolOp, ast.BinOp, ast.UnaryOp, ast.Lambda, ast.IfExp, ast.Dict, ast.Set, ast.ListComp, ast.Compare,
    ast.Call, ast.FormattedValue, ast.JoinedStr, ast.Constant, ast.Attribute, ast.Subscript, ast.Name, ast.List,
    ast.Tuple, ast.Slice,
)
ERRORS = (
    "Exception ValueError TypeError KeyError IndexError LookupError ZeroDivisionError ArithmeticError OverflowError "
    "RuntimeError NotImplementedError AttributeError StopIteration"
).split()
BUILTINS = (
    "len range enumerate zip min max sum abs sorted reversed int str bool list tuple dict set frozenset isinstance "
    "ord repr any all divmod"
).split() + ERRORS
METHODS = (
    "append clear copy count endswith extend find get index insert isalnum isalpha isdigit islower isspace isupper "
    "items join keys ljust lower lstrip partition pop remove replace reverse rfind rjust rpartition rsplit rstrip "
    "setdefault split splitlines startswith strip update upper values zfill bit_length"
).split()
DUNDERS = ("__init__", "__eq__", "__repr__", "__str__", "__len__")
UNUSED = "register mro elements open input version_info with_traceback add_note format format_map".split()
WORDS = re.compile(
    r"\b(type|typing|typing_extensions|enum|Enum|IntEnum|StrEnum|Flag|IntFlag|Generic|Protocol|ABC|ABCMeta|namedtuple"
    r"|NamedTuple|TypedDict|TYPE_CHECKING|abstractmethod)\b|dataclass|overload|contextmanager"
)


def is_docstring(node, tree):
    return node is tree.body[0] and isinstance(node.value, ast.Constant) and isinstance(node.value.value, str)


def text_faults(text):
    rows = text.split("\n")
    yield from (f"L10 row {at + 1} is long" for at, row in enumerate(rows) if len(row) > 120)
    if len(rows) > 401:
        yield "L10 the file is long"
    if re.search(r"[^ -~\n]", text):
        yield "L14 a sign outside ASCII"
    if WORDS.search(text):
        yield "L17 a word that stands nowhere"


def statement_faults(node, tree):
    if not isinstance(node, STATEMENTS):
        yield "L6 a statement"
    if isinstance(node, ast.Expr) and not isinstance(node.value, ast.Call) and not is_docstring(node, tree):
        yield "L6 an expression by itself"
    if isinstance(node, ast.Assign) and len(node.targets) != 1:
        yield "L6 several targets"
    if isinstance(node, (ast.For, ast.While)) and node.orelse:
        yield "L6 else behind a loop"
    if isinstance(node, ast.Try) and (node.finalbody or any(handler.type is None for handler in node.handlers)):
        yield "L6 finally, or except without a name"
    if isinstance(node, ast.ImportFrom) and (node.level or not node.module.startswith("wakefew.")):
        yield "L2 an import from outside"
    if isinstance(node, ast.ImportFrom) and any(alias.name == "*" for alias in node.names):
        yield "L2 import *"


def def_faults(node):
    if isinstance(node, (ast.FunctionDef, ast.ClassDef)) and node.decorator_list:
        yield "L4 a decorator"
    if isinstance(node, ast.FunctionDef) and node.end_lineno - node.lineno >= 40:
        yield "L10 the function is long"
    if isinstance(node, ast.arguments) and (node.vararg or node.kwarg or node.kwonlyargs or node.posonlyargs):
        yield "L4 no plain parameters"
    if isinstance(node, ast.ClassDef):
        if len(node.bases) > 1 or node.keywords:
            yield "L5 more than one base"
        if not all(isinstance(part, (ast.FunctionDef, ast.Pass)) for part in node.body):
            yield "L5 a value in a class"


def expression_faults(node):
    if isinstance(node, ast.expr) and not isinstance(node, EXPRESSIONS):
        yield "L7 an expression"
    if isinstance(node, ast.Constant) and not isinstance(node.value, (int, str, type(None))):
        yield "L7 a value"
    if isinstance(node, ast.Constant) and isinstance(node.value, str) and "%" in node.value:
        yield "L27 a text with the sign for what is left over"
    if isinstance(node, (ast.Div, ast.MatMult)):
        yield "L7 an operator"
    if isinstance(node, ast.ListComp) and (len(node.generators) > 1 or len(node.generators[0].ifs) > 1):
        yield "L7 a comprehension of several"
    if isinstance(node, ast.FormattedValue) and not (isinstance(node.value, ast.Name) and node.format_spec is None):
        yield "L7 no plain name in an f-string"
    if isinstance(node, ast.BinOp) and isinstance(node.op, ast.Pow):
        if not (isinstance(node.right, ast.Constant) and 0 <= node.right.value <= 64):
            yield "L27 an exponent that is not written"
    if isinstance(node, ast.Compare) and any(isinstance(op, (ast.Is, ast.IsNot)) for op in node.ops):
        sides = [node.left] + node.comparators
        if not any(isinstance(side, ast.Constant) and isinstance(side.value, (bool, type(None))) for side in sides):
            yield "L20 is"


def bound_names(node):
    if isinstance(node, (ast.FunctionDef, ast.ClassDef)):
        return [node.name]
    if isinstance(node, ast.arg):
        return [node.arg]
    if isinstance(node, ast.Attribute):
        return [node.attr]
    if isinstance(node, ast.Name) and isinstance(node.ctx, ast.Store):
        return [node.id]
    return []


def name_faults(node, methods):
    for name in bound_names(node):
        if name.startswith("_") and name not in DUNDERS:
            yield f"L12 {name}"
        if name in UNUSED:
            yield f"L17 {name}"
        if hasattr(builtins, name) and not isinstance(node, (ast.Attribute, ast.FunctionDef)):
            yield f"L15 {name} is a name of Python's own"
    if isinstance(node, ast.Name) and hasattr(builtins, node.id) and node.id not in BUILTINS:
        yield f"L8 {node.id}"
    if isinstance(node, ast.Call) and isinstance(node.func, ast.Attribute):
        if node.func.attr not in METHODS and node.func.attr not in methods and node.func.attr not in DUNDERS:
            yield f"L25 {node.func.attr}"


WALKERS = "zip enumerate reversed range".split()
VIEWS = "items keys values".split()
WALKED_IN = "list tuple dict sorted sum any all enumerate zip min max".split()
CHANGES = "append clear extend insert pop remove reverse setdefault update".split()
KEYWORDS = {"sorted": ("key", "reverse"), "min": ("key", "default"), "max": ("key", "default"), "sum": ("start",)}
TAKEN = "KeyError ZeroDivisionError StopIteration".split()
NO_VALUES = "items keys values pop update append clear extend insert remove reverse setdefault sort args".split()
FREE_AS_METHODS = METHODS + ["add", "discard"]
FREE_AS_VALUES = "count index title find get join lower upper split strip copy add".split()
PYTHONS_OWN = {name for kind in (str, int, list, dict, set, bytes, tuple) for name in dir(kind)}


def parents_of(tree):
    return {child: node for node in ast.walk(tree) for child in ast.iter_child_nodes(node)}


def top_names(tree):
    names = []
    for node in tree.body:
        if isinstance(node, (ast.FunctionDef, ast.ClassDef)):
            names.append(node.name)
        elif isinstance(node, ast.ImportFrom):
            names.extend(alias.asname or alias.name for alias in node.names)
        elif isinstance(node, ast.Assign):
            names.extend(target.id for target in node.targets)
    return names


def class_names(tree):
    return [node.name for node in tree.body if isinstance(node, ast.ClassDef)]


def imported_names(tree):
    return [alias.name for node in tree.body if isinstance(node, ast.ImportFrom) for alias in node.names]


def top_faults(tree):
    for node in tree.body:
        if not isinstance(node, (ast.FunctionDef, ast.ClassDef, ast.ImportFrom, ast.Assign)):
            if not (isinstance(node, ast.Expr) and is_docstring(node, tree)):
                yield "L3 a statement at the top"
        if isinstance(node, ast.Assign):
            for part in ast.walk(node.value):
                if isinstance(part, (ast.Call, ast.ListComp, ast.BinOp, ast.Lambda)):
                    yield "L3 no plain value at the top"
            if isinstance(node.value, (ast.List, ast.Dict)):
                for part in list(ast.walk(node.value))[1:]:
                    if isinstance(part, (ast.List, ast.Dict)):
                        yield "L15 a list or dict within one of the top"
    names = top_names(tree)
    for name in sorted({name for name in names if names.count(name) > 1}):
        yield f"L15 {name} is bound twice"


def local_faults(node, tree):
    held = class_names(tree) + imported_names(tree)
    if isinstance(node, ast.arg) and node.arg in held:
        yield f"L15 the parameter {node.arg}"
    if isinstance(node, ast.Name) and isinstance(node.ctx, ast.Store) and node.id in held:
        yield f"L15 the local {node.id}"
    if isinstance(node, ast.arg) and node.annotation or isinstance(node, ast.FunctionDef) and node.returns:
        yield "L21 an annotation"


def class_faults(node, parents, classes):
    if isinstance(node, ast.Name) and node.id in classes:
        above = parents[node]
        called = isinstance(above, ast.Call) and above.func is node
        asked = isinstance(above, ast.Call) and isinstance(above.func, ast.Name) and above.func.id == "isinstance"
        base = isinstance(above, ast.Attribute) and above.attr == "__init__"
        if not (called or asked or base or isinstance(above, (ast.ClassDef, ast.ExceptHandler))):
            yield f"L18 the class {node.id} is handed on"
    if isinstance(node, ast.ClassDef):
        methods = [part.name for part in node.body if isinstance(part, ast.FunctionDef)]
        if len(methods) != len(set(methods)):
            yield "L18 a method stands twice"
        for name in methods:
            if name in PYTHONS_OWN and name not in FREE_AS_METHODS and name != "__init__":
                yield f"L26 the method {name}"
    if isinstance(node, ast.Attribute) and isinstance(node.ctx, ast.Store):
        if node.attr in NO_VALUES or node.attr in PYTHONS_OWN and node.attr not in FREE_AS_VALUES:
            yield f"L26 the value {node.attr}"


def error_faults(node, classes):
    if isinstance(node, ast.ExceptHandler):
        taken = node.type.elts if isinstance(node.type, ast.Tuple) else [node.type]
        for kind in taken:
            if not (isinstance(kind, ast.Name) and (kind.id in classes or kind.id in TAKEN)):
                yield "L19 an error that is taken"
    if isinstance(node, ast.Raise) and not isinstance(node.exc, ast.Call):
        yield "L19 an error that is not made on the spot"


def is_call_of(node, names):
    return isinstance(node, ast.Call) and isinstance(node.func, ast.Name) and node.func.id in names


def walk_faults(node, parents):
    view = isinstance(node, ast.Call) and isinstance(node.func, ast.Attribute) and node.func.attr in VIEWS
    if view or is_call_of(node, WALKERS):
        above = parents[node]
        walked = isinstance(above, (ast.For, ast.comprehension)) and above.iter is node
        within = is_call_of(above, WALKED_IN)
        if within and above.func.id not in ("zip",):
            within = above.args[0] is node
        if within and above.func.id in ("min", "max"):
            within = len(above.args) + len(above.keywords) == 1
        joined = isinstance(above, ast.Call) and isinstance(above.func, ast.Attribute) and above.func.attr == "join"
        if not (walked or within or joined):
            yield "L23 not walked at once"
    if is_call_of(node, ["set", "frozenset"]) or isinstance(node, ast.Set):
        if not (is_call_of(parents[node], ["sorted", "len"]) and not parents[node].keywords):
            yield "L24 a set that is kept or walked (stricter here: only straight within sorted or len)"


def walked_thing(node):
    while isinstance(node, ast.Call):
        if isinstance(node.func, ast.Attribute) and node.func.attr in VIEWS:
            node = node.func.value
        elif is_call_of(node, WALKERS) and node.args:
            node = node.args[0]
        else:
            return None
    return ast.dump(node) if isinstance(node, (ast.Name, ast.Attribute)) else None


def change_faults(node):
    if not isinstance(node, ast.For):
        return
    walked = walked_thing(node.iter)
    if walked is None:
        return
    for part in (part for row in node.body for part in ast.walk(row)):
        if isinstance(part, ast.Call) and isinstance(part.func, ast.Attribute) and part.func.attr in CHANGES:
            if ast.dump(part.func.value) == walked:
                yield "L23 what a loop walks is changed in it"
        if isinstance(part, ast.Subscript) and isinstance(part.ctx, ast.Store) and ast.dump(part.value) == walked:
            yield "L23 what a loop walks is changed in it"


def call_faults(node, parents, methods):
    if isinstance(node, ast.Call) and node.keywords:
        name = node.func.id if isinstance(node.func, ast.Name) else ""
        if not all(word.arg in KEYWORDS.get(name, ()) for word in node.keywords):
            yield "L22 a keyword (stricter here: none at the package's own either)"
    if isinstance(node, ast.Attribute) and isinstance(node.ctx, ast.Load):
        if node.attr in METHODS or node.attr in methods:
            above = parents[node]
            if not (isinstance(above, ast.Call) and above.func is node or isinstance(above, ast.keyword)):
                yield f"L25 the method {node.attr} is handed on"


def top_use_faults(node, parents, tree):
    lists = [part.targets[0].id for part in tree.body
             if isinstance(part, ast.Assign) and isinstance(part.value, (ast.List, ast.Dict))]
    if isinstance(node, ast.Name) and isinstance(node.ctx, ast.Load) and node.id in lists:
        above = parents[node]
        indexed = isinstance(above, ast.Subscript) and isinstance(above.ctx, ast.Load) and above.value is node
        asked = isinstance(above, ast.Compare) or isinstance(above, ast.Attribute) and above.attr not in CHANGES
        walked = isinstance(above, (ast.For, ast.comprehension)) or is_call_of(above, ["len", "list", "dict", "sorted"])
        if not (indexed or asked or walked):
            yield f"L15 {node.id} of the top is handed on"


def init_faults(node):
    if isinstance(node, ast.FunctionDef) and node.name == "__init__":
        if any(isinstance(part, ast.Return) for part in ast.walk(node)):
            yield "L28 a return"
    if isinstance(node, ast.FunctionDef) and node.name in DUNDERS and node.name != "__init__":
        yield "L28 best: don't write them"


def drawn_from(tree):
    return [node.module.split(".")[1] for node in tree.body if isinstance(node, ast.ImportFrom)]


def is_drawn_round(name, trees):
    seen, ahead = [], drawn_from(trees[name])
    while ahead:
        other = ahead.pop()
        if other not in seen:
            seen.append(other)
            ahead.extend(drawn_from(trees[other]))
    return name in seen


def methods_and_values(trees):
    methods, values = set(), set()
    for tree in trees:
        for node in ast.walk(tree):
            if isinstance(node, ast.ClassDef):
                methods.update(part.name for part in node.body if isinstance(part, ast.FunctionDef))
            if isinstance(node, ast.Attribute) and isinstance(node.ctx, ast.Store):
                values.add(node.attr)
    return methods, values


def faults(text, methods=(), classes=()):
    tree = ast.parse(text)
    parents = parents_of(tree)
    found = list(text_faults(text)) + list(top_faults(tree))
    for node in ast.walk(tree):
        parts = [
            def_faults(node), expression_faults(node), name_faults(node, methods), local_faults(node, tree),
            class_faults(node, parents, classes), error_faults(node, classes), walk_faults(node, parents),
            change_faults(node), call_faults(node, parents, methods), top_use_faults(node, parents, tree),
            init_faults(node),
        ]
        if isinstance(node, ast.stmt):
            parts.append(statement_faults(node, tree))
        found.extend(f"{fault}, row {getattr(node, 'lineno', '?')}" for part in parts for fault in part)
    return found


class ThePackage(unittest.TestCase):
    def setUp(self):
        self.texts = {path.name: path.read_text("utf-8") for path in sorted(PACKAGE.glob("*.py"))}

    def test_files(self):
        lying = [path.name for path in PACKAGE.iterdir() if path.name != "__pycache__"]
        self.assertIn("__init__.py", lying)
        self.assertEqual([name for name in lying if not re.fullmatch(r"[a-z_][a-z0-9_]*\.py", name)], [])

    def test_each_file(self):
        trees = [ast.parse(text) for text in self.texts.values()]
        methods, values = methods_and_values(trees)
        classes = [name for tree in trees for name in class_names(tree)]
        for name, text in self.texts.items():
            with self.subTest(name):
                self.assertEqual(faults(text, methods, classes), [])

    def test_imports(self):
        trees = {name[:-3]: ast.parse(text) for name, text in self.texts.items()}
        for name, tree in trees.items():
            for node in tree.body:
                if isinstance(node, ast.ImportFrom):
                    source = trees[node.module.split(".")[1]]
                    defined = [part for part in top_names(source) if part not in imported_names(source)]
                    self.assertEqual([alias.name for alias in node.names if alias.name not in defined], [], name)
            with self.subTest(name):
                self.assertFalse(is_drawn_round(name, trees))

    def test_no_name_is_a_method_and_a_value(self):
        methods, values = methods_and_values([ast.parse(text) for text in self.texts.values()])
        self.assertEqual(sorted(methods & values), [])


class TheLook(unittest.TestCase):
    def test_what_is_outside_is_seen(self):
        for rule, text in (
            ("L2", "from os.path import join\n"), ("L4", "def f(*things):\n    return things\n"),
            ("L5", "class A:\n    b = 1\n"), ("L6", "def f():\n    del f\n"), ("L6", "import ast\n"),
            ("L6", "a = b = 1\n"), ("L7", "a = 1.5\n"), ("L7", "a = 4 / 2\n"), ("L7", "a = {1: 2 for b in c}\n"),
            ("L8", "a = hash(3)\n"), ("L10", "a = 1  # " + "b" * 120 + "\n"), ("L12", "_a = 1\n"),
            ("L14", "a = '\u00e4'\n"), ("L15", "def f(next):\n    return 1\n"), ("L17", "# a type\n"),
            ("L20", "a = b is c\n"), ("L25", "a = b.swapcase()\n"), ("L27", "a = 2 ** b\n"), ("L27", "a = '%'\n"),
            ("L3", "a = len('b')\n"), ("L3", "print(1)\n"), ("L15", "a = [[1]]\n"), ("L15", "a = 1\na = 2\n"),
            ("L15", "from wakefew.errors import Past\n\n\ndef f(Past):\n    return 1\n"),
            ("L15", "A = [1]\n\n\ndef f():\n    return A\n"), ("L15", "A = [1]\n\n\ndef f():\n    A.append(2)\n"),
            ("L18", "class B:\n    pass\n\n\ndef f():\n    return B\n"),
            ("L19", "def f(a):\n    try:\n        return a[0]\n    except Exception:\n        return 1\n"),
            ("L19", "def f(a):\n    raise a\n"), ("L21", "def f(a: int):\n    return a\n"),
            ("L22", "def f(a):\n    return int('1', base=3)\n"), ("L23", "def f(a):\n    return zip(a, a)\n"),
            ("L23", "def f(a):\n    for b in a:\n        a.append(b)\n"), ("L24", "def f(a):\n    b = set(a)\n"),
            ("L23", "def f(a):\n    for b, c in a.items():\n        a[b] = 1\n"),
            ("L25", "def f(a):\n    return a.append\n"), ("L26", "def f(a):\n    a.args = 1\n"),
            ("L26", "class B:\n    def real(self):\n        return 1\n"),
            ("L28", "class B:\n    def __init__(self):\n        return None\n"),
        ):
            with self.subTest(rule, text=text):
                self.assertIn(rule, [fault.split()[0] for fault in faults(text, (), ("B",))])

    def test_what_is_within_is_left_alone(self):
        text = '"""Words."""\n\nA = (1, 2)\n\n\ndef f(b, c=0):\n    return [d for d in b if d is not None]\n'
        self.assertEqual(faults(text), [])


if __name__ == "__main__":
    unittest.main()
