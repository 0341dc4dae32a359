"""The form of the package's files: what of the language's rules L1 to L28 can be read off the code."""

import ast
import builtins
import pathlib
import re
import unittest

PACKAGE = pathlib.Path(__file__).resolve().parent.parent / "linewords"

STATEMENTS = (
    ast.Assign, ast.AugAssign, ast.If, ast.While, ast.For, ast.Return, ast.Break, ast.Continue, ast.Pass, ast.Raise,
    ast.Try, ast.Expr, ast.FunctionDef, ast.ClassDef, ast.ImportFrom,
)
EXPRESSIONS = (
    ast.Constant, ast.Name, ast.Attribute, ast.Subscript, ast.Slice, ast.Call, ast.BinOp, ast.UnaryOp, ast.BoolOp,
    ast.Compare, ast.IfExp, ast.List, ast.Tuple, ast.Dict, ast.Set, ast.ListComp, ast.JoinedStr, ast.FormattedValue,
    ast.Lambda,
)
ERRORS = (
    "Exception ValueError TypeError KeyError IndexError LookupError ZeroDivisionError ArithmeticError OverflowError "
    "RuntimeError NotImplementedError AttributeError StopIteration"
).split()
OWN_NAMES = (
    "len range enumerate zip min max sum abs sorted reversed int str bool list tuple dict set frozenset isinstance "
    "ord repr any all divmod"
).split() + ERRORS
METHODS = (
    "append clear copy count endswith extend find get index insert isalnum isalpha isdigit islower isspace isupper "
    "items join keys ljust lower lstrip partition pop remove replace reverse rfind rjust rpartition rsplit rstrip "
    "setdefault split splitlines startswith strip update upper values zfill bit_length"
).split()
CHANGING = "append clear extend insert pop remove reverse setdefault update".split()
WALKING = "list tuple dict sorted sum any all enumerate zip min max".split()
VALUES_ALLOWED = "count index title find get join lower upper split strip copy add".split()
TWO_UNDERSCORES = "__init__ __eq__ __repr__ __str__ __len__".split()
UNUSED = (
    "register mro elements open input version_info with_traceback add_note format format_map attrgetter breakpoint "
    "builtins compile copyright credits delattr dir eval exec exit gc getattr globals hasattr help id importlib "
    "license locals methodcaller os quit setattr super type vars sys chr print"
).split()
NOWHERE = re.compile(
    r"\b(type|typing|typing_extensions|enum|Enum|IntEnum|StrEnum|Flag|IntFlag|Generic|Protocol|ABC|ABCMeta|namedtuple"
    r"|NamedTuple|TypedDict|TYPE_CHECKING|abstractmethod)\b|dataclass|overload|contextmanager"
)
FILE_NAMES_NOT_USED = ("test", "tests", "testing", "site", "conftest", "sitecustomize", "usercustomize")


def signs_and_sizes(source, tree):
    """L10, L14, L17, L27: what is seen without knowing what a node means."""
    rows = source.split("\n")
    if len(rows) - 1 > 400:
        yield "L10", 400
    for number, row in enumerate(rows, 1):
        if len(row) > 120:
            yield "L10", number
        if not all(" " <= sign <= "~" for sign in row):
            yield "L14", number
        if NOWHERE.search(row):
            yield "L17", number
    for node in ast.walk(tree):
        if isinstance(node, ast.FunctionDef) and node.end_lineno - node.lineno + 1 > 40:
            yield "L10", node.lineno
        if isinstance(node, ast.Constant) and isinstance(node.value, str) and "%" in node.value:
            yield "L27", node.lineno
        if isinstance(node, ast.Constant) and isinstance(node.value, (float, complex, bytes)):
            yield "L7", node.lineno


def nodes(tree):
    """L6, L7, L20, L23, L24: kinds of statements and expressions."""
    for node in ast.walk(tree):
        if isinstance(node, ast.stmt) and not isinstance(node, STATEMENTS):
            yield "L6", node.lineno
        if isinstance(node, ast.expr) and not isinstance(node, EXPRESSIONS):
            yield "L7", node.lineno
        if isinstance(node, ast.Assign) and (len(node.targets) > 1 or isinstance(node.targets[0], ast.List)):
            yield "L6", node.lineno
        if isinstance(node, (ast.For, ast.While)) and node.orelse or isinstance(node, ast.Try) and node.finalbody:
            yield "L6", node.lineno
        if isinstance(node, ast.Expr) and not isinstance(node.value, ast.Call) and node not in tree.body[:1]:
            yield "L6", node.lineno
        if isinstance(node, (ast.BinOp, ast.AugAssign)) and isinstance(node.op, (ast.Div, ast.MatMult)):
            yield "L7", node.lineno
        if isinstance(node, ast.BinOp) and isinstance(node.op, ast.Pow) and not isinstance(node.right, ast.Constant):
            yield "L27", node.lineno
        if isinstance(node, ast.ListComp) and (len(node.generators) > 1 or len(node.generators[0].ifs) > 1):
            yield "L7", node.lineno
        if isinstance(node, ast.Compare) and any(isinstance(op, (ast.Is, ast.IsNot)) for op in node.ops):
            if not (isinstance(node.comparators[-1], ast.Constant) and node.comparators[-1].value in (None, True, False)):
                yield "L20", node.lineno
        if isinstance(node, ast.Set):
            yield "L24", node.lineno


def called_names(tree):
    return {id(node.func): node for node in ast.walk(tree) if isinstance(node, ast.Call)}


def package_methods():
    found = set()
    for path in PACKAGE.glob("*.py"):
        for node in ast.parse(path.read_text(encoding="utf-8")).body:
            if isinstance(node, ast.ClassDef):
                found |= {part.name for part in node.body if isinstance(part, ast.FunctionDef)}
    return found


def names(tree):
    """L8, L12, L15, L17, L25: names, methods and what is called."""
    called = called_names(tree)
    own = package_methods()
    for node in ast.walk(tree):
        name = getattr(node, "id", None) or getattr(node, "attr", None) or getattr(node, "arg", None)
        if isinstance(node, (ast.FunctionDef, ast.ClassDef)):
            name = node.name
        if name is None or isinstance(node, ast.keyword):
            continue
        if not re.fullmatch(r"[A-Za-z][A-Za-z0-9_]*", name) and name not in TWO_UNDERSCORES:
            yield "L12", node.lineno
        if name in UNUSED:
            yield "L17", node.lineno
        bound = isinstance(node, ast.arg) or isinstance(node, ast.Name) and isinstance(node.ctx, ast.Store)
        if bound and hasattr(builtins, name):
            yield "L15", node.lineno
        if isinstance(node, ast.Name) and not bound and hasattr(builtins, name) and name not in OWN_NAMES:
            yield "L8", node.lineno
        if isinstance(node, ast.Name) and name in OWN_NAMES and name not in ERRORS and id(node) not in called:
            yield "L22", node.lineno
        if isinstance(node, ast.Attribute) and id(node) in called and name not in METHODS and name not in own:
            yield "L25", node.lineno


def functions_and_classes(tree):
    """L4, L5, L21: their heads."""
    for node in ast.walk(tree):
        if isinstance(node, ast.FunctionDef):
            arguments = node.args
            if arguments.vararg or arguments.kwarg or arguments.kwonlyargs or arguments.posonlyargs:
                yield "L4", node.lineno
            if node.decorator_list:
                yield "L4", node.lineno
            if node.returns or any(argument.annotation for argument in arguments.args):
                yield "L21", node.lineno
        if isinstance(node, ast.ClassDef):
            if node.decorator_list or node.keywords or len(node.bases) > 1:
                yield "L5", node.lineno
            for part in node.body:
                if not isinstance(part, ast.FunctionDef):
                    yield "L5", part.lineno


def is_docstring(node):
    return isinstance(node, ast.Expr) and isinstance(node.value, ast.Constant) and isinstance(node.value.value, str)


def top(tree):
    """L2, L3, L15, L16: the top of a file, and its lists and dicts, which are only read."""
    kept = {}
    defined = []
    for node in tree.body:
        if isinstance(node, ast.FunctionDef):
            defined.append(node.name)
        if isinstance(node, ast.ImportFrom):
            if node.level or not (node.module or "").startswith("linewords.") or node.names[0].name == "*":
                yield "L2", node.lineno
        elif isinstance(node, ast.Assign):
            for part in ast.walk(node.value):
                if not isinstance(part, (ast.Constant, ast.Tuple, ast.List, ast.Dict, ast.Name, ast.expr_context)):
                    if not isinstance(part, (ast.UnaryOp, ast.USub)):
                        yield "L3", node.lineno
                if isinstance(part, ast.Name) and part.id not in defined:
                    yield "L3", node.lineno
                if part is not node.value and isinstance(part, (ast.List, ast.Dict)):
                    yield "L15", node.lineno
            name = getattr(node.targets[0], "id", "")
            if name in kept:
                yield "L15", node.lineno
            kept[name] = True
        elif not isinstance(node, (ast.FunctionDef, ast.ClassDef)) and not is_docstring(node):
            yield "L3", node.lineno
    for node in ast.walk(tree):
        if isinstance(node, ast.Import) or isinstance(node, ast.ImportFrom) and node not in tree.body:
            yield "L2", node.lineno
        if isinstance(node, ast.Attribute) and getattr(node.value, "id", "") in kept and node.attr in CHANGING:
            yield "L15", node.lineno
        if isinstance(node, ast.Subscript) and getattr(node.value, "id", "") in kept:
            if not isinstance(node.ctx, ast.Load):
                yield "L15", node.lineno
        if isinstance(node, ast.Return) and getattr(node.value, "id", "") in kept:
            yield "L15", node.lineno


def local_names(tree):
    """L15: no parameter and no local is called like a class or an import of its file."""
    taken = {node.name for node in tree.body if isinstance(node, ast.ClassDef)}
    for node in tree.body:
        if isinstance(node, ast.ImportFrom):
            taken |= {alias.asname or alias.name for alias in node.names}
    for node in ast.walk(tree):
        stored = isinstance(node, ast.Name) and isinstance(node.ctx, ast.Store) and node.id in taken
        if stored or isinstance(node, ast.arg) and node.arg in taken:
            yield "L15", node.lineno


def values_of_objects(tree):
    """L18, L26: how values are given to objects, and what they and methods are called."""
    pythons = {name for kind in (str, int, list, dict, set, bytes, tuple) for name in dir(kind)}
    for node in ast.walk(tree):
        if isinstance(node, ast.Attribute) and isinstance(node.ctx, ast.Store):
            if not isinstance(node.value, ast.Name):
                yield "L18", node.lineno
            if node.attr in pythons - set(VALUES_ALLOWED):
                yield "L26", node.lineno
        if isinstance(node, ast.ClassDef):
            methods = [part.name for part in node.body if isinstance(part, ast.FunctionDef)]
            if len(set(methods)) < len(methods):
                yield "L18", node.lineno
            if set(methods) & pythons - set(METHODS) - {"add", "discard"} - set(TWO_UNDERSCORES):
                yield "L26", node.lineno


def walked(tree):
    """L23: what zip and its like make is walked on the spot."""
    spots = set()
    for node in ast.walk(tree):
        if isinstance(node, (ast.For, ast.comprehension)):
            spots.add(id(node.iter))
        if isinstance(node, ast.Call) and node.args and getattr(node.func, "id", "") in WALKING:
            spots.update(id(part) for part in (node.args if node.func.id == "zip" else node.args[:1]))
    for node in ast.walk(tree):
        if isinstance(node, ast.Call):
            name = getattr(node.func, "id", "") or getattr(node.func, "attr", "")
            if name in ("zip", "enumerate", "reversed", "range", "items", "keys", "values") and id(node) not in spots:
                yield "L23", node.lineno


def handlers(tree):
    """L19: errors are taken by name."""
    for node in ast.walk(tree):
        if isinstance(node, ast.ExceptHandler):
            if node.type is None or getattr(node.type, "id", "") in ("Exception", "TypeError"):
                yield "L19", node.lineno


def faults(source):
    """Each rule that the source breaks, with the line."""
    tree = ast.parse(source)
    found = list(signs_and_sizes(source, tree))
    for look in (nodes, names, functions_and_classes, top, local_names, values_of_objects, walked, handlers):
        found += look(tree)
    return found


def module_faults(folder):
    """L1, L14: what lies in the package's folder."""
    for path in sorted(folder.rglob("*")):
        if "__pycache__" in path.parts:
            continue
        if path.is_dir() or not re.fullmatch(r"[a-z][a-z0-9_]*\.py|__init__\.py|__main__\.py", path.name):
            yield "L1", path.name
        like_python = hasattr(builtins, path.stem) and not path.stem.startswith("__")
        if path.stem in FILE_NAMES_NOT_USED or path.stem.startswith("test_") or like_python:
            yield "L14", path.name


def drawn_from(path):
    tree = ast.parse(path.read_text(encoding="utf-8"))
    return {node.module for node in tree.body if isinstance(node, ast.ImportFrom)}


class Form(unittest.TestCase):
    def test_every_file_keeps_to_the_rules(self):
        paths = sorted(PACKAGE.glob("*.py"))
        self.assertIn(PACKAGE / "texts.py", paths)
        for path in paths:
            self.assertEqual(faults(path.read_text(encoding="utf-8")), [], path.name)

    def test_what_lies_in_the_folder(self):
        self.assertEqual(list(module_faults(PACKAGE)), [])
        self.assertTrue((PACKAGE / "__init__.py").is_file())

    def test_no_file_draws_from_itself_by_others(self):
        drawn = {"linewords." + path.stem: drawn_from(path) for path in PACKAGE.glob("*.py")}
        while drawn:
            free = [name for name in drawn if not drawn[name] & set(drawn)]
            self.assertTrue(free, drawn)
            for name in free:
                del drawn[name]

    def test_no_name_is_a_method_and_a_value(self):
        methods, values = set(), set()
        for path in PACKAGE.glob("*.py"):
            for node in ast.walk(ast.parse(path.read_text(encoding="utf-8"))):
                if isinstance(node, ast.ClassDef):
                    methods |= {part.name for part in node.body}
                if isinstance(node, ast.Attribute) and isinstance(node.ctx, ast.Store):
                    values.add(node.attr)
        self.assertTrue(methods and values)
        self.assertEqual(methods & values, set())

    def test_an_imported_name_is_defined_where_it_is_drawn_from(self):
        for path in PACKAGE.glob("*.py"):
            for node in ast.parse(path.read_text(encoding="utf-8")).body:
                if isinstance(node, ast.ImportFrom):
                    other = PACKAGE / (node.module.split(".")[1] + ".py")
                    body = ast.parse(other.read_text(encoding="utf-8")).body
                    here = [part.name for part in body if isinstance(part, (ast.FunctionDef, ast.ClassDef))]
                    here += [part.targets[0].id for part in body if isinstance(part, ast.Assign)]
                    for alias in node.names:
                        self.assertIn(alias.name, here)

    def test_the_check_sees_what_breaks_a_rule(self):
        samples = {
            "L2": ("import sys\n", "from os import path\n", "from linewords.texts import *\n", "from .lines import a\n"),
            "L3": ("print(1)\n", "A = len([1])\n", "A = 1\nB = A\n", "for a in [1]:\n    pass\n"),
            "L4": ("def f(*a):\n    pass\n", "@g\ndef f():\n    pass\n"),
            "L5": ("class A:\n    b = 1\n",),
            "L6": ("def f():\n    assert 1\n", "def f():\n    a = b = 1\n", "def f():\n    global a\n", "def f():\n    'a'\n"),
            "L7": ("def f(a):\n    return a / 2\n", "A = 1.5\n", "def f(a):\n    return {b for b in a}\n"),
            "L8": ("def f(a):\n    return pow(a, 2)\n", "def f(a):\n    return filter(a, a)\n"),
            "L10": ("A = 1" + " " * 120 + "\n", "def f():\n" + "    pass\n" * 40),
            "L12": ("def f():\n    _a = 1\n",),
            "L14": ("# \u00e4\n", "if 1:\n\tpass\n"),
            "L15": ("A = [1]\ndef f():\n    A.append(2)\n", "def f(map):\n    pass\n", "A = [[1]]\n", "A = 1\nA = 2\n",
                    "class A:\n    def b(self, A):\n        pass\n"),
            "L17": ("# the type of it\n", "def f(a):\n    return a.open()\n", "def f(a):\n    return chr(a)\n"),
            "L18": ("def f(a):\n    a.b().c = 1\n",),
            "L19": ("def f():\n    try:\n        g()\n    except Exception:\n        pass\n",),
            "L20": ("def f(a):\n    return a is f\n",),
            "L21": ("def f(a: int):\n    pass\n",),
            "L22": ("def f(a):\n    b = len\n",),
            "L23": ("def f(a):\n    b = range(a)\n", "def f(a):\n    return len(zip(a, a))\n"),
            "L24": ("def f(a):\n    return a in {1, 2}\n",),
            "L25": ("def f(a):\n    a.sort()\n",),
            "L26": ("def f(a):\n    a.hex = 1\n", "class A:\n    def hex(self):\n        pass\n"),
            "L27": ('A = "%"\n', "def f(a):\n    return 2 ** a\n"),
        }
        for rule, sources in samples.items():
            for source in sources:
                self.assertIn(rule, [fault[0] for fault in faults(source)], source)


if __name__ == "__main__":
    unittest.main()
