"""The package keeps to the part of Python that LANGUAGE.md tells: those of its rules that are easily seen."""

import ast
import builtins
import pathlib
import re
import unittest

ROOT = pathlib.Path(__file__).resolve().parent.parent
PACKAGE = ROOT / "shredjoin"

OWN_NAMES = set(
    "len range enumerate zip min max sum abs sorted reversed int str bool list tuple dict set frozenset isinstance ord"
    " repr any all divmod Exception ValueError TypeError KeyError IndexError LookupError ZeroDivisionError"
    " ArithmeticError OverflowError RuntimeError NotImplementedError AttributeError StopIteration".split())
METHODS = set(
    "append clear copy count endswith extend find get index insert isalnum isalpha isdigit islower isspace isupper items"
    " join keys ljust lower lstrip partition pop remove replace reverse rfind rjust rpartition rsplit rstrip setdefault"
    " split splitlines startswith strip update upper values zfill bit_length".split())
DUNDERS = {"__init__", "__eq__", "__repr__", "__str__", "__len__"}
NODES = (
    ast.Module, ast.ImportFrom, ast.alias, ast.FunctionDef, ast.ClassDef, ast.arguments, ast.arg, ast.Lambda, ast.Assign,
    ast.AugAssign, ast.If, ast.While, ast.For, ast.Return, ast.Break, ast.Continue, ast.Pass, ast.Raise, ast.Try,
    ast.ExceptHandler, ast.Expr, ast.Constant, ast.List, ast.Tuple, ast.Dict, ast.Set, ast.BinOp, ast.UnaryOp,
    ast.BoolOp, ast.Compare, ast.IfExp, ast.Call, ast.keyword, ast.Attribute, ast.Subscript, ast.Slice, ast.ListComp,
    ast.comprehension, ast.JoinedStr, ast.FormattedValue, ast.Name, ast.expr_context, ast.operator, ast.unaryop,
    ast.boolop, ast.cmpop)
NEVER = set(
    "register mro elements open input version_info with_traceback add_note attrgetter breakpoint builtins compile"
    " copyright credits delattr dir eval exec exit gc getattr globals hasattr help id importlib license locals"
    " methodcaller os quit setattr super type vars sys format format_map".split())
WORDS = re.compile(
    r"\b(type|typing|typing_extensions|enum|Enum|IntEnum|StrEnum|Flag|IntFlag|Generic|Protocol|ABC|ABCMeta|namedtuple"
    r"|NamedTuple|TypedDict|TYPE_CHECKING|abstractmethod)\b|dataclass|overload|contextmanager")
PLAIN = ("None", "True", "False")
KEYWORDS = {"sorted": {"key", "reverse"}, "min": {"key", "default"}, "max": {"key", "default"}, "sum": {"start"},
            "enumerate": {"start"}, "zip": {"strict"}}
KEYS = {"len", "int", "str", "abs", "sum", "min", "max", "tuple"}
CHANGES = {"append", "clear", "extend", "insert", "pop", "remove", "reverse", "setdefault", "update"}
VALUES = {"count", "index", "title", "find", "get", "join", "lower", "upper", "split", "strip", "copy", "add"}
PYTHONS = {name for kind in (str, int, list, dict, set, bytes, tuple) for name in dir(kind)}
WALKED = {"zip", "enumerate", "reversed", "range"}
WALKERS = {"list", "tuple", "dict", "sorted", "sum", "any", "all", "enumerate", "zip", "min", "max"}


def called(node):
    return node.func.id if isinstance(node, ast.Call) and isinstance(node.func, ast.Name) else None


def is_docstring(node):
    return isinstance(node, ast.Expr) and isinstance(node.value, ast.Constant) and isinstance(node.value.value, str)


class Reader:
    """Gathers the faults of one file as pairs (rule, line)."""

    def __init__(self, text, own_methods=()):
        self.faults = []
        self.own_methods = set(own_methods)
        self.tree = ast.parse(text)
        self.classes = {node.name for node in self.tree.body if isinstance(node, ast.ClassDef)}
        drawn = [name.name for node in self.tree.body if isinstance(node, ast.ImportFrom) for name in node.names]
        self.classes |= {name for name in drawn if name[0].isupper() and not name.isupper()}
        self.taken = self.classes | set(drawn)
        self.above = {}
        for node in ast.walk(self.tree):
            for child in ast.iter_child_nodes(node):
                self.above[child] = node
        self.read_signs(text)
        self.read_top()
        for node in ast.walk(self.tree):
            self.read_node(node)

    def fault(self, rule, node):
        self.faults.append((rule, getattr(node, "lineno", 0)))

    def read_signs(self, text):
        rows = text.split("\n")
        if len(rows) > 401:
            self.faults.append(("L10", 401))
        for number, row in enumerate(rows, start=1):
            if len(row) > 120:
                self.faults.append(("L10", number))
            if not all(" " <= sign <= "~" for sign in row):
                self.faults.append(("L14", number))
            if WORDS.search(row):
                self.faults.append(("L17", number))

    def read_top(self):
        bound = []
        for place, node in enumerate(self.tree.body):
            if isinstance(node, ast.ImportFrom):
                bound += [name.name for name in node.names]
            elif isinstance(node, (ast.FunctionDef, ast.ClassDef)):
                bound.append(node.name)
            elif isinstance(node, ast.Assign) and isinstance(node.targets[0], ast.Name):
                bound.append(node.targets[0].id)
                if any(isinstance(part, (ast.Call, ast.ListComp, ast.Set)) for part in ast.walk(node.value)):
                    self.fault("L3", node)
            elif not (place == 0 and is_docstring(node)):
                self.fault("L3", node)
        if len(bound) != len(set(bound)):
            self.fault("L15", self.tree)

    def read_node(self, node):
        if not isinstance(node, NODES) or isinstance(node, (ast.Div, ast.MatMult)):
            self.fault("L7", node)
        reader = getattr(self, "read_" + type(node).__name__, None)
        if reader is not None:
            reader(node)

    def read_word(self, name, node):
        if name.startswith("_"):
            self.fault("L12", node)
        if name in NEVER:
            self.fault("L17", node)

    def read_bound(self, name, node):
        self.read_word(name, node)
        if hasattr(builtins, name):
            self.fault("L15", node)

    def read_local(self, name, node):
        self.read_bound(name, node)
        if name in self.taken:
            self.fault("L15", node)

    def read_ImportFrom(self, node):
        if self.above[node] is not self.tree or node.level or not node.module.startswith("shredjoin."):
            self.fault("L2", node)
        if any(name.name == "*" or name.asname for name in node.names):
            self.fault("L2", node)

    def read_FunctionDef(self, node):
        taken = node.args
        if node.decorator_list or taken.vararg or taken.kwarg or taken.kwonlyargs or taken.posonlyargs:
            self.fault("L4", node)
        if node.end_lineno - node.lineno >= 40:
            self.fault("L10", node)
        if node.returns or any(one.annotation for one in taken.args):
            self.fault("L21", node)
        if not (isinstance(self.above[node], ast.ClassDef) and node.name in DUNDERS):
            self.read_word(node.name, node)
        if not isinstance(self.above[node], ast.ClassDef) and hasattr(builtins, node.name):
            self.fault("L15", node)

        if node.name == "__init__" and any(isinstance(part, ast.Return) and part.value for part in ast.walk(node)):
            self.fault("L28", node)
        if node.name in DUNDERS - {"__init__"}:
            self.fault("L28", node)

    def read_arg(self, node):
        self.read_local(node.arg, node)

    def read_ClassDef(self, node):
        if self.above[node] is not self.tree:
            self.fault("L15", node)
        if node.decorator_list or node.keywords or len(node.bases) > 1:
            self.fault("L5", node)
        if not all(isinstance(part, (ast.FunctionDef, ast.Pass)) for part in node.body):
            self.fault("L5", node)
        self.read_bound(node.name, node)
        methods = [part.name for part in node.body if isinstance(part, ast.FunctionDef)]
        if len(methods) != len(set(methods)):
            self.fault("L18", node)
        if any(name in PYTHONS - METHODS - DUNDERS - {"add", "discard"} for name in methods):
            self.fault("L26", node)

    def read_Assign(self, node):
        if len(node.targets) > 1:
            self.fault("L6", node)

    def read_Expr(self, node):
        if not isinstance(node.value, ast.Call) and self.tree.body[0] is not node:
            self.fault("L6", node)

    def read_While(self, node):
        if node.orelse:
            self.fault("L6", node)

    def read_For(self, node):
        self.read_While(node)
        walked = node.iter
        while isinstance(walked, ast.Call):
            if called(walked) in ("list", "tuple", "sorted"):
                return
            method = isinstance(walked.func, ast.Attribute)
            if not method and not walked.args:
                return
            walked = walked.func.value if method else walked.args[0]
        for part in [inner for row in node.body for inner in ast.walk(row)]:
            if isinstance(part, ast.Subscript) and isinstance(part.ctx, ast.Store):
                changed = part.value
            elif isinstance(part, ast.Call) and isinstance(part.func, ast.Attribute) and part.func.attr in CHANGES:
                changed = part.func.value
            else:
                continue
            if ast.dump(changed) == ast.dump(walked):
                self.fault("L23", part)

    def read_Try(self, node):
        if node.finalbody:
            self.fault("L6", node)

    def read_ExceptHandler(self, node):
        names = node.type.elts if isinstance(node.type, ast.Tuple) else [node.type]
        if any(not isinstance(name, ast.Name) or name.id in ("Exception", "TypeError") for name in names):
            self.fault("L19", node)

    def read_Raise(self, node):
        if not isinstance(node.exc, ast.Call):
            self.fault("L19", node)

    def read_Constant(self, node):
        if not (node.value is None or isinstance(node.value, (int, str))):
            self.fault("L7", node)
        if isinstance(node.value, str) and "%" in node.value:
            self.fault("L27", node)

    def read_FormattedValue(self, node):
        if not isinstance(node.value, ast.Name) or node.format_spec or node.conversion not in (-1, ord("r")):
            self.fault("L7", node)

    def read_ListComp(self, node):
        if len(node.generators) > 1 or len(node.generators[0].ifs) > 1:
            self.fault("L7", node)

    def read_BinOp(self, node):
        if isinstance(node.op, ast.Pow):
            if not (isinstance(node.right, ast.Constant) and node.right.value in range(65)):
                self.fault("L27", node)

    def read_Compare(self, node):
        sides = [node.left] + node.comparators
        for place, sign in enumerate(node.ops):
            if isinstance(sign, (ast.Is, ast.IsNot)):
                pair = sides[place:place + 2]
                if not any(isinstance(side, ast.Constant) and repr(side.value) in PLAIN for side in pair):
                    self.fault("L20", node)

    def read_Name(self, node):
        if isinstance(node.ctx, ast.Store):
            self.read_local(node.id, node)
            return
        self.read_word(node.id, node)
        if hasattr(builtins, node.id) and node.id not in OWN_NAMES:
            self.fault("L8", node)
        if node.id in self.classes and not self.is_named(node):
            self.fault("L18", node)
        if node.id in OWN_NAMES and not self.is_named(node):
            above = self.above[node]
            if not (isinstance(above, ast.keyword) and above.arg == "key" and node.id in KEYS):
                self.fault("L22", node)

    def is_named(self, node):
        """Called, a base, or beside isinstance and except."""
        above = self.above[node]
        if isinstance(above, ast.Tuple):
            node, above = above, self.above[above]
        if isinstance(above, ast.Call):
            return above.func is node or called(above) == "isinstance" and above.args[1] is node
        return isinstance(above, (ast.ClassDef, ast.ExceptHandler)) or (
            isinstance(above, ast.Attribute) and above.attr == "__init__")

    def read_Attribute(self, node):
        if not (node.attr in DUNDERS and isinstance(node.value, ast.Name)):
            self.read_word(node.attr, node)
        if isinstance(node.ctx, ast.Store) and node.attr in PYTHONS - VALUES:
            self.fault("L26", node)
        above = self.above[node]
        is_called = isinstance(above, ast.Call) and above.func is node
        if node.attr in METHODS and not is_called and not (isinstance(above, ast.keyword) and above.arg == "key"):
            self.fault("L25", node)

    def read_Lambda(self, node):
        for other in ast.walk(self.tree):
            if isinstance(other, ast.Lambda) and other is not node and other.lineno == node.lineno:
                if ast.dump(other.args) == ast.dump(node.args):
                    self.fault("L13", node)

    def read_Set(self, node):
        above = self.above[node]
        if isinstance(node, ast.Set) and len(node.elts) >= 3 and not isinstance(above, ast.Compare):
            self.fault("L13", node)
        if not (isinstance(above, (ast.Compare, ast.BinOp)) or called(above) in ("sorted", "len")):
            self.fault("L24", node)

    def is_walked(self, node):
        above = self.above[node]
        if isinstance(above, (ast.For, ast.comprehension)):
            return above.iter is node
        if called(above) in WALKERS:
            return above.args[0] is node or called(above) == "zip"
        return isinstance(above, ast.Call) and isinstance(above.func, ast.Attribute) and above.func.attr == "join"

    def read_Call(self, node):
        name = called(node)
        if name in ("set", "frozenset"):
            self.read_Set(node)
        method = node.func.attr if isinstance(node.func, ast.Attribute) else None
        if name in WALKED or method in ("items", "keys", "values"):
            if not self.is_walked(node):
                self.fault("L23", node)
        if method is not None and method not in METHODS | self.own_methods | DUNDERS:
            self.fault("L25", node)
        if any(isinstance(part, ast.Starred) for part in node.args) or any(k.arg is None for k in node.keywords):
            self.fault("L7", node)
        if name in OWN_NAMES or name in self.classes or method in METHODS:
            if any(keyword.arg not in KEYWORDS.get(name, ()) for keyword in node.keywords):
                self.fault("L22", node)


def package_files():
    return sorted(path for path in PACKAGE.rglob("*") if "__pycache__" not in path.parts and path.is_file())


def methods_of_package():
    names = []
    for path in package_files():
        for node in ast.walk(ast.parse(path.read_text("utf-8"))):
            if isinstance(node, ast.ClassDef):
                names += [part.name for part in node.body if isinstance(part, ast.FunctionDef)]
    return names


def draws():
    """For each module the pairs (module, name) that it draws from the package."""
    found = {}
    for path in package_files():
        tree = ast.parse(path.read_text("utf-8"))
        rows = [node for node in tree.body if isinstance(node, ast.ImportFrom)]
        found["shredjoin." + path.stem] = [(row.module, name.name) for row in rows for name in row.names]
    return found


class Package(unittest.TestCase):
    def test_files(self):
        self.assertTrue((PACKAGE / "__init__.py").is_file())
        for path in package_files():
            self.assertRegex(path.name, r"\A([a-z][a-z0-9_]*|__init__|__main__)\.py\Z", "L1")
            taken = path.stem in NEVER or path.stem in dir(builtins) or path.stem.startswith("test")
            self.assertFalse(taken and path.stem not in ("__init__", "__main__"), "L14")

    def test_each_file_keeps_to_the_rules(self):
        own = methods_of_package()
        for path in package_files():
            with self.subTest(file=path.name):
                self.assertEqual(Reader(path.read_text("utf-8"), own).faults, [])

    def test_names_are_drawn_from_the_file_that_defines_them(self):
        for module, rows in draws().items():
            for source, name in rows:
                tree = ast.parse((ROOT / (source.replace(".", "/") + ".py")).read_text("utf-8"))
                bound = [getattr(node, "name", None) for node in tree.body]
                bound += [node.targets[0].id for node in tree.body if isinstance(node, ast.Assign)]
                self.assertIn(name, bound, f"L16 {module}")

    def test_no_two_files_draw_from_one_another(self):
        left = {module: {source for source, name in rows} for module, rows in draws().items()}
        while left:
            free = [module for module, sources in left.items() if not sources & set(left)]
            self.assertTrue(free, f"L16 {sorted(left)}")
            for module in free:
                left.pop(module)


    def test_no_name_is_a_method_and_a_value(self):
        values = set()
        for path in package_files():
            for node in ast.walk(ast.parse(path.read_text("utf-8"))):
                if isinstance(node, ast.Attribute) and isinstance(node.ctx, ast.Store):
                    values.add(node.attr)
        self.assertEqual(values & set(methods_of_package()), set(), "L18")


class TheReaderItself(unittest.TestCase):
    def test_faults_are_seen(self):
        for rule, text in (
            ("L2", "from os import path\n"), ("L7", "import sys\n"), ("L3", "print(1)\n"), ("L3", "xs = list()\n"),
            ("L4", "def f(*xs):\n    return 1\n"), ("L5", "class A:\n    x = 1\n"), ("L6", "def f():\n    a = b = 1\n"),
            ("L6", "def f(x):\n    for k in x:\n        pass\n    else:\n        pass\n"), ("L7", "x = 1.5\n"),
            ("L7", "def f(x):\n    return x / 2\n"), ("L7", "def f(x):\n    return any(k for k in x)\n"),
            ("L8", "def f(x):\n    return print(x)\n"), ("L10", "# " + "x" * 120 + "\n"), ("L12", "def f(_):\n    pass\n"),
            ("L10", "def f():\n" + "    pass\n" * 40), ("L14", "# \u00e4\n"), ("L15", "def f(list):\n    pass\n"),
            ("L15", "x = 1\nx = 2\n"), ("L17", "# the type of x\n"), ("L19", "def f(e):\n    raise e\n"),
            ("L20", "def f(x):\n    return x is 1\n"), ("L21", "def f(x: int):\n    pass\n"),
            ("L23", "def f(x):\n    return x.items()\n"), ("L24", "def f(x):\n    return set(x)\n"),
            ("L25", "def f(x):\n    return x.title()\n"), ("L27", "def f(n):\n    return 2 ** n\n"),
            ("L13", "def f(x):\n    return sorted({1, 2, 3})\n"), ("L13", "def f(x):\n    g(lambda y: 1, lambda y: 2)\n"),
            ("L15", "from shredjoin.pieces import tear\ndef f(tear):\n    return 1\n"),
            ("L18", "class A:\n    pass\ndef f():\n    return [A]\n"), ("L22", "def f(x):\n    return g(len)\n"),
            ("L22", "def f(x):\n    return x.split(sep=x)\n"), ("L22", "def f(x):\n    return min(x, strict=x)\n"),
            ("L23", "def f(x):\n    for k in x:\n        x.append(k)\n"), ("L25", "def f(x):\n    return x.append\n"),
            ("L23", "def f(x):\n    for k, v in enumerate(x):\n        x[k] = v\n"),
            ("L26", "class A:\n    def title(self):\n        return 1\n"), ("L26", "def f(x):\n    x.items = 1\n"),
            ("L28", "class A:\n    def __init__(self):\n        return None\n"),
        ):
            with self.subTest(text=text):
                self.assertIn(rule, [fault[0] for fault in Reader(text).faults])


if __name__ == "__main__":
    unittest.main()
