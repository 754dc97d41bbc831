"""The package keeps to its small part of Python: those rules that can be seen in a file's own syntax tree.

Not all of the rules are looked for here; the numbers are those of the rules that are.
"""

import ast
import builtins
import pathlib
import re
import unittest

PACKAGE = pathlib.Path(__file__).resolve().parent.parent / "wakefew"

STATEMENTS = (
    ast.Assign, ast.AugAssign, ast.If, ast.While, ast.For, ast.Return, ast.Break, ast.Continue, ast.Pass,
    ast.Raise, ast.Try, ast.Expr, ast.FunctionDef, ast.ClassDef, ast.ImportFrom,
)
EXPRESSIONS = (
    ast.BoolOp, ast.BinOp, ast.UnaryOp, ast.Lambda, ast.IfExp, ast.Dict, ast.Set, ast.ListComp, ast.Compare,
    ast.Call, ast.FormattedValue, ast.JoinedStr, ast.Constant, ast.Attribute, ast.Subscript, ast.Name, ast.List,
    ast.Tuple, ast.Slice,
)
ERRORS = (
    "Exception ValueError TypeError KeyError IndexError LookupError ZeroDivisionError ArithmeticError OverflowError "
    "RuntimeError NotImplementedError AttributeError StopIteration"
).split()
BUILTINS = (
    "len range enumerate zip min max sum abs sorted reversed int str bool list tuple dict set frozenset isinstance "
    "ord repr any all divmod"
).split() + ERRORS
METHODS = (
    "append clear copy count endswith extend find get index insert isalnum isalpha isdigit islower isspace isupper "
    "items join keys ljust lower lstrip partition pop remove replace reverse rfind rjust rpartition rsplit rstrip "
    "setdefault split splitlines startswith strip update upper values zfill bit_length"
).split()
DUNDERS = ("__init__", "__eq__", "__repr__", "__str__", "__len__")
UNUSED = "register mro elements open input version_info with_traceback add_note format format_map".split()
WORDS = re.compile(
    r"\b(type|typing|typing_extensions|enum|Enum|IntEnum|StrEnum|Flag|IntFlag|Generic|Protocol|ABC|ABCMeta|namedtuple"
    r"|NamedTuple|TypedDict|TYPE_CHECKING|abstractmethod)\b|dataclass|overload|contextmanager"
)


def is_docstring(node, tree):
    return node is tree.body[0] and isinstance(node.value, ast.Constant) and isinstance(node.value.value, str)


def text_faults(text):
    rows = text.split("\n")
    yield from (f"L10 row {at + 1} is long" for at, row in enumerate(rows) if len(row) > 120)
    if len(rows) > 401:
        yield "L10 the file is long"
    if re.search(r"[^ -~\n]", text):
        yield "L14 a sign outside ASCII"
    if WORDS.search(text):
        yield "L17 a word that stands nowhere"


def statement_faults(node, tree):
    if not isinstance(node, STATEMENTS):
        yield "L6 a statement"
    if isinstance(node, ast.Expr) and not isinstance(node.value, ast.Call) and not is_docstring(node, tree):
        yield "L6 an expression by itself"
    if isinstance(node, ast.Assign) and len(node.targets) != 1:
        yield "L6 several targets"
    if isinstance(node, (ast.For, ast.While)) and node.orelse:
        yield "L6 else behind a loop"
    if isinstance(node, ast.Try) and (node.finalbody or any(handler.type is None for handler in node.handlers)):
        yield "L6 finally, or except without a name"
    if isinstance(node, ast.ImportFrom) and (node.level or not node.module.startswith("wakefew.")):
        yield "L2 an import from outside"
    if isinstance(node, ast.ImportFrom) and any(alias.name == "*" for alias in node.names):
        yield "L2 import *"


def def_faults(node):
    if isinstance(node, (ast.FunctionDef, ast.ClassDef)) and node.decorator_list:
        yield "L4 a decorator"
    if isinstance(node, ast.FunctionDef) and node.end_lineno - node.lineno >= 40:
        yield "L10 the function is long"
    if isinstance(node, ast.arguments) and (node.vararg or node.kwarg or node.kwonlyargs or node.posonlyargs):
        yield "L4 no plain parameters"
    if isinstance(node, ast.ClassDef):
        if len(node.bases) > 1 or node.keywords:
            yield "L5 more than one base"
        if not all(isinstance(part, (ast.FunctionDef, ast.Pass)) for part in node.body):
            yield "L5 a value in a class"


def expression_faults(node):
    if isinstance(node, ast.expr) and not isinstance(node, EXPRESSIONS):
        yield "L7 an expression"
    if isinstance(node, ast.Constant) and not isinstance(node.value, (int, str, type(None))):
        yield "L7 a value"
    if isinstance(node, ast.Constant) and isinstance(node.value, str) and "%" in node.value:
        yield "L27 a text with the sign for what is left over"
    if isinstance(node, (ast.Div, ast.MatMult)):
        yield "L7 an operator"
    if isinstance(node, ast.ListComp) and (len(node.generators) > 1 or len(node.generators[0].ifs) > 1):
        yield "L7 a comprehension of several"
    if isinstance(node, ast.FormattedValue) and not (isinstance(node.value, ast.Name) and node.format_spec is None):
        yield "L7 no plain name in an f-string"
    if isinstance(node, ast.BinOp) and isinstance(node.op, ast.Pow):
        if not (isinstance(node.right, ast.Constant) and 0 <= node.right.value <= 64):
            yield "L27 an exponent that is not written"
    if isinstance(node, ast.Compare) and any(isinstance(op, (ast.Is, ast.IsNot)) for op in node.ops):
        sides = [node.left] + node.comparators
        if not any(isinstance(side, ast.Constant) and isinstance(side.value, (bool, type(None))) for side in sides):
            yield "L20 is"


def bound_names(node):
    if isinstance(node, (ast.FunctionDef, ast.ClassDef)):
        return [node.name]
    if isinstance(node, ast.arg):
        return [node.arg]
    if isinstance(node, ast.Attribute):
        return [node.attr]
    if isinstance(node, ast.Name) and isinstance(node.ctx, ast.Store):
        return [node.id]
    return []


def name_faults(node, methods):
    for name in bound_names(node):
        if name.startswith("_") and name not in DUNDERS:
            yield f"L12 {name}"
        if name in UNUSED:
            yield f"L17 {name}"
        if hasattr(builtins, name) and not isinstance(node, (ast.Attribute, ast.FunctionDef)):
            yield f"L15 {name} is a name of Python's own"
    if isinstance(node, ast.Name) and hasattr(builtins, node.id) and node.id not in BUILTINS:
        yield f"L8 {node.id}"
    if isinstance(node, ast.Call) and isinstance(node.func, ast.Attribute):
        if node.func.attr not in METHODS and node.func.attr not in methods and node.func.attr not in DUNDERS:
            yield f"L25 {node.func.attr}"


def methods_and_values(trees):
    methods, values = set(), set()
    for tree in trees:
        for node in ast.walk(tree):
            if isinstance(node, ast.ClassDef):
                methods.update(part.name for part in node.body if isinstance(part, ast.FunctionDef))
            if isinstance(node, ast.Attribute) and isinstance(node.ctx, ast.Store):
                values.add(node.attr)
    return methods, values


def faults(text, methods=()):
    tree = ast.parse(text)
    found = list(text_faults(text))
    for node in ast.walk(tree):
        parts = [def_faults(node), expression_faults(node), name_faults(node, methods)]
        if isinstance(node, ast.stmt):
            parts.append(statement_faults(node, tree))
        found.extend(f"{fault}, row {getattr(node, 'lineno', '?')}" for part in parts for fault in part)
    return found


class ThePackage(unittest.TestCase):
    def setUp(self):
        self.texts = {path.name: path.read_text("utf-8") for path in sorted(PACKAGE.glob("*.py"))}

    def test_files(self):
        lying = [path.name for path in PACKAGE.iterdir() if path.name != "__pycache__"]
        self.assertIn("__init__.py", lying)
        self.assertEqual([name for name in lying if not re.fullmatch(r"[a-z_][a-z0-9_]*\.py", name)], [])

    def test_each_file(self):
        methods, values = methods_and_values([ast.parse(text) for text in self.texts.values()])
        for name, text in self.texts.items():
            with self.subTest(name):
                self.assertEqual(faults(text, methods), [])

    def test_no_name_is_a_method_and_a_value(self):
        methods, values = methods_and_values([ast.parse(text) for text in self.texts.values()])
        self.assertEqual(sorted(methods & values), [])


class TheLook(unittest.TestCase):
    def test_what_is_outside_is_seen(self):
        for rule, text in (
            ("L2", "from os.path import join\n"), ("L4", "def f(*things):\n    return things\n"),
            ("L5", "class A:\n    b = 1\n"), ("L6", "def f():\n    del f\n"), ("L6", "import ast\n"),
            ("L6", "a = b = 1\n"), ("L7", "a = 1.5\n"), ("L7", "a = 4 / 2\n"), ("L7", "a = {1: 2 for b in c}\n"),
            ("L8", "a = hash(3)\n"), ("L10", "a = 1  # " + "b" * 120 + "\n"), ("L12", "_a = 1\n"),
            ("L14", "a = '\u00e4'\n"), ("L15", "def f(next):\n    return 1\n"), ("L17", "# a type\n"),
            ("L20", "a = b is c\n"), ("L25", "a = b.swapcase()\n"), ("L27", "a = 2 ** b\n"), ("L27", "a = '%'\n"),
        ):
            with self.subTest(rule, text=text):
                self.assertIn(rule, [fault.split()[0] for fault in faults(text)])

    def test_what_is_within_is_left_alone(self):
        text = '"""Words."""\n\nA = (1, 2)\n\n\ndef f(b, c=0):\n    return [d for d in b if d is not None]\n'
        self.assertEqual(faults(text), [])


if __name__ == "__main__":
    unittest.main()
