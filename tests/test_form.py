"""What of shared/LANGUAGE.md can be seen in the package's files."""

import ast
import builtins
import re
import unittest
from pathlib import Path

PACKAGE = Path(__file__).resolve().parent.parent / "armchoice"

ERRORS = set("""Exception ValueError TypeError KeyError IndexError LookupError ZeroDivisionError ArithmeticError
    OverflowError RuntimeError NotImplementedError AttributeError StopIteration""".split())
BUILTINS = ERRORS | set("""len range enumerate zip min max sum abs sorted reversed int str bool list tuple dict set
    frozenset isinstance ord repr any all divmod object float bytes""".split())
METHODS = set("""append clear copy count endswith extend find get index insert isalnum isalpha isdigit islower isspace
    isupper items join keys ljust lower lstrip partition pop remove replace reverse rfind rjust rpartition rsplit
    rstrip setdefault split splitlines startswith strip update upper values zfill bit_length""".split())
OWN_METHODS = METHODS | {"add", "discard"}
OWN_VALUES = set("count index title find get join lower upper split strip copy add".split())
DUNDER_METHODS = {"__init__", "__eq__", "__repr__", "__str__", "__len__"}
DUNDER_NAMES = DUNDER_METHODS | {"__all__", "__version__", "__name__"}
WORDS = set("""type typing typing_extensions enum Enum IntEnum StrEnum Flag IntFlag Generic Protocol ABC ABCMeta
    namedtuple NamedTuple TypedDict TYPE_CHECKING abstractmethod""".split())
PARTS = ("dataclass", "overload", "contextmanager")
NAMES_OUT = set("""attrgetter breakpoint builtins compile copyright credits delattr dir eval exec exit gc getattr
    globals hasattr help id importlib license locals methodcaller os quit setattr super vars""".split())
EVERYWHERE_OUT = set("register mro elements open input version_info with_traceback add_note".split())
ATTRIBUTES_OUT = {"format", "format_map"}
CATCHABLE_OUT = set("""Exception TypeError ArithmeticError OverflowError RuntimeError NotImplementedError
    AttributeError""".split())
FILES_OUT = WORDS | set("test tests testing site conftest sitecustomize usercustomize".split()) | set(dir(builtins))
OF_PYTHON = set()
for value in ("", 0, [], {}, set(), (), b"", True):
    OF_PYTHON |= set(dir(value))

STATEMENTS = (ast.Assign, ast.AugAssign, ast.AnnAssign, ast.If, ast.While, ast.For, ast.Return, ast.Break, ast.Continue,
              ast.Pass, ast.Raise, ast.Try, ast.Expr, ast.FunctionDef, ast.ClassDef, ast.ImportFrom, ast.Import)
EXPRESSIONS = (ast.BoolOp, ast.BinOp, ast.UnaryOp, ast.Lambda, ast.IfExp, ast.Dict, ast.Set, ast.ListComp,
               ast.Compare, ast.Call, ast.FormattedValue, ast.JoinedStr, ast.Constant, ast.Attribute, ast.Subscript,
               ast.Name, ast.List, ast.Tuple, ast.Slice)
COLLECTIONS = (ast.List, ast.Tuple, ast.Dict)


def is_docstring(node):
    return isinstance(node, ast.Expr) and isinstance(node.value, ast.Constant) and isinstance(node.value.value, str)


def is_plain(node, inside=False):
    """Whether a value may stand at a file's top: within a list, tuple or dict, no other list or dict."""
    if isinstance(node, COLLECTIONS):
        if inside and not isinstance(node, ast.Tuple):
            return False
        return all(is_plain(child, True) for child in ast.iter_child_nodes(node) if isinstance(child, ast.expr))
    if isinstance(node, ast.UnaryOp):
        return isinstance(node.op, ast.USub) and isinstance(node.operand, ast.Constant)
    return isinstance(node, ast.Constant) or (inside and isinstance(node, ast.Name))


def bound_names(node):
    """The names that a piece of a program binds, or asks to be bound."""
    found = []
    for part in ast.walk(node):
        if isinstance(part, ast.Name) and isinstance(part.ctx, ast.Store):
            found.append(part.id)
        elif isinstance(part, ast.arg):
            found.append(part.arg)
        elif isinstance(part, (ast.FunctionDef, ast.ClassDef)):
            found.append(part.name)
        elif isinstance(part, ast.ExceptHandler) and part.name:
            found.append(part.name)
    return found


def imported_names(tree):
    return [name.name for node in tree.body if isinstance(node, ast.ImportFrom) for name in node.names]


def rules_of_text(text):
    for row in text.split("\n"):
        if len(row) > 120:
            yield "L10", row
    if text.count("\n") > 399:
        yield "L10", "the file"
    if re.search(r"[^ -~\n]", text):
        yield "L14", "a sign"
    for word in re.findall(r"\w+", text):
        if word in WORDS or any(part in word for part in PARTS):
            yield "L17", word


def rules_of_top(tree):
    names = imported_names(tree)
    for place, node in enumerate(tree.body):
        if isinstance(node, ast.Assign):
            names += bound_names(node)
            if not isinstance(node.targets[0], ast.Name) or not is_plain(node.value):
                yield "L3", ast.dump(node)
        elif isinstance(node, (ast.FunctionDef, ast.ClassDef)):
            names.append(node.name)
        elif not isinstance(node, ast.ImportFrom) and not (place == 0 and is_docstring(node)):
            yield "L3", ast.dump(node)
    for name in set(names):
        if names.count(name) > 1:
            yield "L15", name


def rules_of_imports(tree):
    top = [node for node in tree.body if isinstance(node, ast.ImportFrom)]
    last = max([node.lineno for node in top], default=0)
    for node in tree.body:
        if not isinstance(node, ast.ImportFrom) and not is_docstring(node) and node.lineno < last:
            yield "L2", ast.dump(node)
    for node in ast.walk(tree):
        if isinstance(node, ast.Import):
            yield "L16", ast.dump(node)
        if isinstance(node, ast.ImportFrom):
            own = node.level == 0 and (node.module or "").startswith("armchoice.")
            names = [name.name for name in node.names]
            future = node.module == "__future__" and names == ["annotations"]
            if node not in top or "*" in names or node.module == "armchoice.__main__" or not (own or future):
                yield "L2", ast.dump(node)


def rules_of_functions(tree):
    taken = set(imported_names(tree)) | {node.name for node in tree.body if isinstance(node, ast.ClassDef)}
    for node in ast.walk(tree):
        if not isinstance(node, (ast.FunctionDef, ast.Lambda)):
            continue
        plain = node.args
        if plain.vararg or plain.kwarg or plain.kwonlyargs or plain.posonlyargs:
            yield "L4", ast.dump(node)
        if not all(isinstance(default, ast.Constant) for default in plain.defaults):
            yield "L4", ast.dump(node)
        for name in bound_names(node)[1 if isinstance(node, ast.FunctionDef) else 0:]:
            if name in taken or name in dir(builtins):
                yield "L15", name
        if isinstance(node, ast.FunctionDef):
            if node.end_lineno - node.lineno + 1 > 40:
                yield "L10", node.name
            if node.decorator_list:
                yield "L4", node.name


def rules_of_classes(tree):
    for node in ast.walk(tree):
        if not isinstance(node, ast.ClassDef):
            continue
        if node not in tree.body:
            yield "L15", node.name
        if len(node.bases) > 1 or node.keywords or node.decorator_list:
            yield "L5", node.name
        methods = []
        for part in node.body:
            if isinstance(part, ast.FunctionDef):
                methods.append(part.name)
            elif not isinstance(part, ast.Pass) and not is_docstring(part):
                yield "L5", node.name
        if len(set(methods)) < len(methods):
            yield "L18", node.name


def rules_of_statements(tree):
    for node in ast.walk(tree):
        if isinstance(node, ast.stmt) and not isinstance(node, STATEMENTS):
            yield "L6", ast.dump(node)
        if isinstance(node, ast.Expr) and not isinstance(node.value, ast.Call) and not is_docstring(node):
            yield "L6", ast.dump(node)
        if isinstance(node, ast.Assign) and len(node.targets) > 1:
            yield "L6", ast.dump(node)
        if isinstance(node, (ast.For, ast.While)) and node.orelse:
            yield "L6", ast.dump(node)
        if isinstance(node, ast.Try) and node.finalbody:
            yield "L6", ast.dump(node)
        if isinstance(node, ast.ExceptHandler):
            caught = {part.id for part in ast.walk(node.type) if isinstance(part, ast.Name)} if node.type else set()
            if not caught or caught & CATCHABLE_OUT:
                yield "L19", ast.dump(node)


def rules_of_operators(node):
    if isinstance(node, (ast.BinOp, ast.AugAssign)):
        if isinstance(node.op, (ast.Div, ast.MatMult)):
            yield "L7", ast.dump(node)
        if isinstance(node.op, ast.Pow):
            exponent = node.right if isinstance(node, ast.BinOp) else node.value
            if not isinstance(exponent, ast.Constant) or exponent.value not in range(65):
                yield "L27", ast.dump(node)
    if isinstance(node, ast.Compare) and any(isinstance(op, (ast.Is, ast.IsNot)) for op in node.ops):
        sides = [node.left] + node.comparators
        if not any(isinstance(side, ast.Constant) and side.value in (None, True, False) for side in sides):
            yield "L20", ast.dump(node)


def rules_of_expressions(tree):
    for node in ast.walk(tree):
        if isinstance(node, ast.expr) and not isinstance(node, EXPRESSIONS):
            yield "L7", ast.dump(node)
        if isinstance(node, ast.Constant):
            if not (node.value is None or isinstance(node.value, (bool, int, str))):
                yield "L7", repr(node.value)
            if isinstance(node.value, str) and "%" in node.value:
                yield "L27", node.value
        if isinstance(node, ast.ListComp) and (len(node.generators) > 1 or len(node.generators[0].ifs) > 1):
            yield "L7", ast.dump(node)
        if isinstance(node, ast.FormattedValue) and not (
                isinstance(node.value, ast.Name) and node.format_spec is None and node.conversion in (-1, ord("r"))):
            yield "L7", ast.dump(node)
        yield from rules_of_operators(node)


def rules_of_names(tree):
    own = set(bound_names(tree)) | set(imported_names(tree))
    for name in own | {node.attr for node in ast.walk(tree) if isinstance(node, ast.Attribute)}:
        if not re.fullmatch(r"[A-Za-z][A-Za-z0-9_]*", name) and name not in DUNDER_NAMES:
            yield "L12", name
        if name in EVERYWHERE_OUT or re.match(r"(f|tb|co|gi|cr|ag)_", name):
            yield "L17", name
    for name in own:
        if name in NAMES_OUT:
            yield "L17", name
    for node in ast.walk(tree):
        if isinstance(node, ast.Name) and node.id in dir(builtins) and node.id not in BUILTINS:
            yield "L8", node.id
        if isinstance(node, ast.Attribute) and node.attr in ATTRIBUTES_OUT:
            yield "L8", node.attr
    for name in set(bound_names(tree)) - own_methods([tree]):
        if name in BUILTINS:
            yield "L8", name


def own_methods(trees):
    return {part.name for tree in trees for node in ast.walk(tree) if isinstance(node, ast.ClassDef)
            for part in node.body if isinstance(part, ast.FunctionDef)}


def own_values(trees):
    return {node.attr for tree in trees for node in ast.walk(tree)
            if isinstance(node, ast.Attribute) and isinstance(node.ctx, ast.Store)}


def rules_of_attributes(trees):
    methods = own_methods(trees)
    for name in methods & own_values(trees):
        yield "L18", name
    for name in (methods & OF_PYTHON) - OWN_METHODS - DUNDER_METHODS:
        yield "L26", name
    for name in (own_values(trees) & OF_PYTHON) - OWN_VALUES:
        yield "L26", name
    for tree in trees:
        for node in ast.walk(tree):
            if isinstance(node, ast.Call) and isinstance(node.func, ast.Attribute):
                name = node.func.attr
                if name in OF_PYTHON and name not in METHODS | methods | {"__init__"}:
                    yield "L25", name


def rules_broken(text):
    """The rules that a file breaks as far as they are seen here, each with what breaks it."""
    tree = ast.parse(text)
    found = list(rules_of_text(text))
    for look in (rules_of_top, rules_of_imports, rules_of_functions, rules_of_classes, rules_of_statements,
                 rules_of_expressions, rules_of_names):
        found += look(tree)
    return found + list(rules_of_attributes([tree]))


def package_files():
    return sorted(path for path in PACKAGE.rglob("*") if "__pycache__" not in path.parts and path.is_file())


class Package(unittest.TestCase):

    def setUp(self):
        self.texts = {path.relative_to(PACKAGE.parent).as_posix(): path.read_text(encoding="utf-8")
                      for path in package_files()}
        self.trees = {name: ast.parse(text) for name, text in self.texts.items()}

    def module(self, name):
        return name[:-len(".py")].replace("/", ".")

    def test_files(self):
        self.assertIn("armchoice/__init__.py", self.texts)
        self.assertIn("armchoice/covers.py", self.texts)
        for name in self.texts:
            self.assertRegex(name, r"\A([a-z][a-z0-9_]*/)+([a-z][a-z0-9_]*|__init__|__main__)\.py\Z")
            self.assertIn(name.rpartition("/")[0] + "/__init__.py", self.texts)
            for part in name[:-len(".py")].split("/"):
                self.assertNotIn(part, FILES_OUT)
                self.assertFalse(part.startswith("test"), name)

    def test_every_file_keeps_the_rules(self):
        for name, text in self.texts.items():
            if not name.endswith("__main__.py"):
                self.assertEqual(rules_broken(text), [], name)

    def test_methods_and_values_of_the_whole_package(self):
        self.assertEqual(list(rules_of_attributes(list(self.trees.values()))), [])

    def test_a_name_is_drawn_from_the_file_that_defines_it(self):
        modules = {self.module(name): tree for name, tree in self.trees.items()}
        for name, tree in self.trees.items():
            for node in tree.body:
                if isinstance(node, ast.ImportFrom) and node.module != "__future__":
                    defined = [part for top in modules[node.module].body if not isinstance(top, ast.ImportFrom)
                               for part in bound_names(top)]
                    for alias in node.names:
                        self.assertIn(alias.name, defined, name)

    def test_no_two_files_draw_from_one_another(self):
        drawn = {}
        for name, tree in self.trees.items():
            modules = {node.module for node in tree.body if isinstance(node, ast.ImportFrom)}
            drawn[self.module(name)] = modules | {"armchoice.__init__"} if modules else set()
        while drawn:
            free = [name for name, modules in drawn.items() if not modules & set(drawn)]
            self.assertNotEqual(free, [], drawn)
            drawn = {name: modules for name, modules in drawn.items() if name not in free}

    def test_the_interface_stands_in_its_file_alone(self):
        places = [name for name, tree in self.trees.items() for node in tree.body
                  if isinstance(node, (ast.FunctionDef, ast.ClassDef)) and node.name == "answers"]
        self.assertEqual(places, ["armchoice/covers.py"])
        for node in self.trees["armchoice/covers.py"].body:
            if isinstance(node, ast.FunctionDef) and node.name == "answers":
                self.assertEqual([arg.arg for arg in node.args.args], ["calls"])
                self.assertEqual(node.args.defaults, [])


LONG = "def long(x):\n" + "    x += 1\n" * 40
BROKEN = (
    ("L2", "from armchoice.covers import *\n"),
    ("L2", "from .covers import answers\n"),
    ("L2", "from random import random\n"),
    ("L2", "def f():\n    from armchoice.covers import answers\n    return answers\n"),
    ("L2", "A = 1\nfrom armchoice.covers import answers\n"),
    ("L16", "import time\n"),
    ("L3", "A = len('abc')\n"),
    ("L3", "A = ([1], 2)\n"),
    ("L3", "for x in (1, 2):\n    pass\n"),
    ("L4", "def f(*xs):\n    return xs\n"),
    ("L4", "def f(**xs):\n    return xs\n"),
    ("L4", "def f(x=[]):\n    return x\n"),
    ("L4", "def g(f):\n    return f\n\n\n@g\ndef f():\n    return 1\n"),
    ("L5", "class A:\n    x = 1\n"),
    ("L5", "class A(ValueError, KeyError):\n    pass\n"),
    ("L6", "def f(x):\n    assert x\n"),
    ("L6", "def f(x):\n    del x[0]\n"),
    ("L6", "def f():\n    a = b = 1\n    return a + b\n"),
    ("L6", "def f(x):\n    with x:\n        pass\n"),
    ("L6", "def f(xs):\n    for x in xs:\n        return x\n    else:\n        return 1\n"),
    ("L6", "def f(x):\n    x + 1\n"),
    ("L7", "def f(x):\n    return x / 2\n"),
    ("L7", "def f(x):\n    return x * 0.5\n"),
    ("L7", "def f(xs):\n    return sum(x for x in xs)\n"),
    ("L7", "def f(xs):\n    return {x: 1 for x in xs}\n"),
    ("L7", "def f(xs):\n    return [*xs]\n"),
    ("L7", "def f(x):\n    return [a for b in x for a in b]\n"),
    ("L7", "def f(x):\n    if (y := x):\n        return y\n"),
    ("L7", "def f(x):\n    return f'{x + 1}'\n"),
    ("L7", "def f(x):\n    yield x\n"),
    ("L8", "def f(x):\n    print(x)\n"),
    ("L8", "def f(x):\n    return pow(x, 2)\n"),
    ("L8", "def sum(x):\n    return x\n"),
    ("L10", LONG),
    ("L10", "A = 1\n" * 400),
    ("L10", "A = '" + "a" * 120 + "'\n"),
    ("L12", "def f(x_):\n    _y = x_\n    return _y\n"),
    ("L14", "A = '\u00e4'\n"),
    ("L14", "def f():\n\treturn 1\n"),
    ("L15", "A = 1\nA = 2\n"),
    ("L15", "def f(hash):\n    return hash\n"),
    ("L15", "from armchoice.arms import arm\n\n\ndef f(arm):\n    return arm\n"),
    ("L17", "# the type of it\n"),
    ("L17", "def f(elements):\n    return elements\n"),
    ("L18", "class A:\n    def f(self):\n        return 1\n\n    def g(self):\n        self.f = 1\n"),
    ("L19", "def f(x):\n    try:\n        x()\n    except Exception:\n        pass\n"),
    ("L19", "def f(x):\n    try:\n        x()\n    except:\n        pass\n"),
    ("L20", "def f(x, y):\n    return x is y\n"),
    ("L25", "def f(x):\n    x.sort()\n"),
    ("L26", "class A:\n    def __init__(self):\n        self.numerator = 1\n"),
    ("L27", "def f(n):\n    return 2 ** n\n"),
)


class Looking(unittest.TestCase):

    def test_what_breaks_a_rule_is_seen(self):
        for rule, text in BROKEN:
            self.assertIn(rule, [name for name, what in rules_broken(text)], text)

    def test_what_keeps_the_rules_is_let_pass(self):
        text = ('"""A module."""\n\nfrom armchoice.arms import Arm\n\nA = (1, (2, "x"))\n\n\ndef f(x, y=1):\n'
                '    xs = [z for z in range(y) if z]\n    if x is None:\n        return Arm(f"{y}", x ** 2)\n'
                '    return [xs[0] // 2, -1]\n\n\nB = {1: f}\n')
        self.assertEqual(rules_broken(text), [])


if __name__ == "__main__":
    unittest.main()
