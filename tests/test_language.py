"""The package's files keep to the part of Python that the program is written in.

The rules are those of LANGUAGE.md, by their numbers. What a rule asks of
things that the package doesn't use (sets kept, f-strings, annotations,
methods with two underscores) is met here by refusing the thing as a whole.
"""

import ast
import builtins
import pathlib
import re
import unittest

PACKAGE = pathlib.Path(__file__).resolve().parent.parent / "punchhall"
FILES = sorted(PACKAGE.rglob("*.py"))

CALLED = set("""len range enumerate zip min max sum abs sorted reversed int str bool list tuple dict set isinstance
    ord repr any all divmod""".split())
ERRORS = set("""Exception ValueError TypeError KeyError IndexError LookupError ZeroDivisionError ArithmeticError
    OverflowError RuntimeError NotImplementedError""".split())
METHODS = set("""append clear copy count endswith extend find get index insert isalnum isalpha isdigit islower isspace
    isupper items join keys ljust lower lstrip partition pop remove replace reverse rfind rjust rpartition rsplit
    rstrip setdefault split splitlines startswith strip update upper values zfill bit_length""".split())
CHANGING = {"append", "clear", "extend", "insert", "pop", "remove", "reverse", "setdefault", "update"}
WORDS = re.compile(r"\b(type|typing|typing_extensions|enum|Enum|IntEnum|StrEnum|Flag|IntFlag|Generic|Protocol|ABC|"
                   r"ABCMeta|namedtuple|NamedTuple|TypedDict|TYPE_CHECKING|abstractmethod)\b|"
                   r"dataclass|overload|contextmanager")
UNUSED_NAMES = set("""register mro elements open input version_info with_traceback add_note attrgetter breakpoint
    builtins compile copyright credits delattr dir eval exec exit gc getattr globals hasattr help id importlib license
    locals methodcaller os quit setattr super type vars sys format format_map""".split())
OWN_OF_PYTHON = set().union(*[dir(kind) for kind in (str, int, list, dict, set, bytes, tuple)])
NODES = set("""Module FunctionDef ClassDef ImportFrom alias arguments arg Assign AugAssign If While For Return Break
    Continue Pass Raise Try ExceptHandler Expr Call Attribute Subscript Slice Name Constant List Tuple Dict ListComp
    comprehension BinOp BoolOp UnaryOp Compare IfExp Lambda keyword Load Store And Or Not USub Invert Add Sub Mult
    FloorDiv Mod Pow BitAnd BitOr BitXor LShift RShift Eq NotEq Lt LtE Gt GtE In NotIn Is IsNot""".split())
ON_THE_SPOT = {"range", "enumerate", "zip", "reversed"}
PYTHON_NAMES = set(dir(builtins))


def faults_of(tree, own_modules):
    """What in a file is outside the rules, each as (rule, line, what)."""
    found = []

    def tell(rule, node, what):
        found.append((rule, getattr(node, "lineno", 0), what))

    parents = {child: node for node in ast.walk(tree) for child in ast.iter_child_nodes(node)}
    classes = {node.name for node in ast.walk(tree) if isinstance(node, ast.ClassDef)}
    imported = {name.name for node in tree.body if isinstance(node, ast.ImportFrom) for name in node.names}
    check_top(tree, tell)
    for node in ast.walk(tree):
        if type(node).__name__ not in NODES:
            tell("L6/L7", node, type(node).__name__)
        check_import(node, tree, own_modules, tell)
        check_def(node, classes | imported, tell)
        check_statement(node, parents, tell)
        check_value(node, parents, tell)
    return found


def check_top(tree, tell):
    bound = []
    for number, node in enumerate(tree.body):
        if isinstance(node, ast.Expr) and not (number == 0 and isinstance(node.value, ast.Constant)):
            tell("L3", node, "something done at the top")
        elif isinstance(node, ast.Assign):
            bound += [target.id for target in node.targets]
            check_plain_value(node.value, tell)
        elif isinstance(node, ast.ImportFrom):
            bound += [name.name for name in node.names]
        elif isinstance(node, (ast.FunctionDef, ast.ClassDef)):
            bound.append(node.name)
        elif not isinstance(node, ast.Expr):
            tell("L3", node, "a statement at the top")
    for name in set(bound):
        if bound.count(name) > 1:
            tell("L15", tree, name)
    check_top_lists_are_read(tree, tell)


def check_plain_value(value, tell):
    for node in ast.walk(value):
        if not isinstance(node, (ast.Constant, ast.List, ast.Tuple, ast.Dict, ast.Name, ast.UnaryOp, ast.USub,
                                 ast.Load)):
            tell("L3", node, "no plain value")
        if isinstance(node, (ast.List, ast.Dict)) and node is not value:
            tell("L15", node, "a list or dict within")


def check_top_lists_are_read(tree, tell):
    lists = {node.targets[0].id for node in tree.body
             if isinstance(node, ast.Assign) and isinstance(node.value, (ast.List, ast.Dict))}
    for node in ast.walk(tree):
        if isinstance(node, ast.Subscript) and isinstance(node.ctx, ast.Store):
            if isinstance(node.value, ast.Name) and node.value.id in lists:
                tell("L15", node, "changed")
        if isinstance(node, ast.Attribute) and isinstance(node.value, ast.Name):
            if node.value.id in lists and node.attr in CHANGING:
                tell("L15", node, "changed")
        if isinstance(node, (ast.Return, ast.Assign)) and isinstance(node.value, ast.Name) and node.value.id in lists:
            tell("L15", node, "handed on")


def check_import(node, tree, own_modules, tell):
    if isinstance(node, ast.ImportFrom):
        if node not in tree.body or node.level != 0 or node.module not in own_modules:
            tell("L2", node, node.module)
        for name in node.names:
            if name.asname is not None or name.name not in own_modules.get(node.module, ()):
                tell("L16", node, name.name)


def check_def(node, taken, tell):
    if isinstance(node, ast.FunctionDef):
        given = node.args
        if node.decorator_list or given.vararg or given.kwarg or given.kwonlyargs or given.posonlyargs or node.returns:
            tell("L4", node, node.name)
        if node.end_lineno - node.lineno + 1 > 40:
            tell("L10", node, node.name)
        if node.name.startswith("_") and node.name != "__init__":
            tell("L12/L28", node, node.name)
    if isinstance(node, ast.ClassDef):
        if node.decorator_list or node.keywords or len(node.bases) > 1:
            tell("L5", node, node.name)
        if not all(isinstance(part, ast.FunctionDef) for part in node.body):
            tell("L5", node, "something else than methods")
    if isinstance(node, ast.arg):
        check_local(node, node.arg, taken, tell)
        if node.annotation is not None:
            tell("L21", node, node.arg)
    if isinstance(node, ast.Name) and isinstance(node.ctx, ast.Store):
        check_local(node, node.id, taken, tell)


def check_local(node, name, taken, tell):
    if name in taken or name in PYTHON_NAMES or name in UNUSED_NAMES:
        tell("L15", node, name)
    if not re.fullmatch(r"[A-Za-z][A-Za-z0-9_]*", name):
        tell("L12", node, name)


def check_statement(node, parents, tell):
    if isinstance(node, ast.Assign) and (len(node.targets) != 1 or isinstance(node.targets[0], (ast.Tuple, ast.List))):
        tell("L6", node, "more than one target")
    if isinstance(node, (ast.For, ast.While)) and node.orelse:
        tell("L6", node, "else behind a loop")
    if isinstance(node, ast.Try) and node.finalbody:
        tell("L6", node, "finally")
    if isinstance(node, ast.Expr) and not isinstance(node.value, ast.Call) \
            and not isinstance(parents[node], ast.Module):
        tell("L6", node, "a value by itself")
    if isinstance(node, ast.ExceptHandler):
        named = node.type.id if isinstance(node.type, ast.Name) else None
        if named is None or named in ERRORS - {"KeyError", "ZeroDivisionError"}:
            tell("L19", node, named)
    if isinstance(node, ast.For) and isinstance(node.iter, ast.Name):
        for inner in ast.walk(node):
            if isinstance(inner, ast.Attribute) and inner.attr in CHANGING and isinstance(inner.value, ast.Name):
                if inner.value.id == node.iter.id:
                    tell("L23", inner, "changed while walked")


def check_value(node, parents, tell):
    above = parents.get(node)
    if isinstance(node, ast.Constant):
        if not isinstance(node.value, (int, str, type(None))):
            tell("L7", node, repr(node.value))
        if isinstance(node.value, str) and "%" in node.value:
            tell("L27", node, "a sign that is out")
    if isinstance(node, ast.ListComp) and (len(node.generators) != 1 or len(node.generators[0].ifs) > 1):
        tell("L7", node, "more than one for or if")
    if isinstance(node, ast.BinOp) and isinstance(node.op, ast.Pow) and not isinstance(node.right, ast.Constant):
        tell("L27", node, "an exponent that isn't written out")
    if isinstance(node, ast.Compare) and any(isinstance(op, (ast.Is, ast.IsNot)) for op in node.ops):
        if not all(isinstance(value, ast.Constant) for value in node.comparators):
            tell("L20", node, "is")
    if isinstance(node, ast.Name) and isinstance(node.ctx, ast.Load) and node.id in PYTHON_NAMES | UNUSED_NAMES:
        check_python_name(node, above, parents, tell)
    if isinstance(node, ast.Call) and node.keywords and not isinstance(node.func, ast.Name):
        tell("L22", node, "a keyword")


def check_python_name(node, above, parents, tell):
    called = isinstance(above, ast.Call) and above.func is node
    if node.id in ERRORS:
        return
    if node.id not in CALLED or not called:
        tell("L8/L22", node, node.id)
    elif node.id in ON_THE_SPOT and not walked_at_once(above, parents[above]):
        tell("L23", node, node.id)
    elif node.id == "set" and not set_on_the_spot(above, parents):
        tell("L24", node, node.id)


def walked_at_once(call, above):
    if isinstance(above, (ast.For, ast.comprehension)):
        return above.iter is call
    return isinstance(above, ast.Call) and isinstance(above.func, ast.Name) and above.func.id in CALLED


def set_on_the_spot(call, parents):
    above = parents[call]
    while isinstance(above, ast.BinOp):
        above = parents[above]
    if isinstance(above, ast.Compare):
        return True
    return isinstance(above, ast.Call) and isinstance(above.func, ast.Name) and above.func.id in ("sorted", "len")


def own_names(trees):
    """Methods and values of the package's classes."""
    methods, values = set(), set()
    for tree in trees:
        for kind in [node for node in ast.walk(tree) if isinstance(node, ast.ClassDef)]:
            methods |= {part.name for part in kind.body if isinstance(part, ast.FunctionDef)}
        values |= {node.attr for node in ast.walk(tree)
                   if isinstance(node, ast.Attribute) and isinstance(node.ctx, ast.Store)}
    return methods - {"__init__"}, values


def parsed(path):
    return ast.parse(path.read_text(encoding="utf-8"))


def module_name(path):
    parts = ("punchhall",) + path.relative_to(PACKAGE).with_suffix("").parts
    return ".".join(part for part in parts if part != "__init__")


def defined_names(tree):
    names = {node.name for node in tree.body if isinstance(node, (ast.FunctionDef, ast.ClassDef))}
    return names | {node.targets[0].id for node in tree.body if isinstance(node, ast.Assign)}


class Files(unittest.TestCase):
    def test_nothing_else_lies_in_the_package(self):
        for path in PACKAGE.rglob("*"):
            if "__pycache__" in path.parts:
                continue
            self.assertTrue(path.is_file() and path.suffix == ".py", path)
            self.assertRegex(path.stem, r"^([a-z][a-z0-9_]*|__init__)$")
            self.assertNotIn(path.stem, PYTHON_NAMES | UNUSED_NAMES)
        self.assertTrue((PACKAGE / "__init__.py").is_file())

    def test_sizes_signs_and_words(self):
        for path in FILES:
            whole = path.read_text(encoding="utf-8")
            lines = whole.split("\n")
            self.assertLessEqual(len(lines), 401, path)
            for line in lines:
                self.assertLessEqual(len(line), 120, (path, line))
                self.assertRegex(line, r"^[ -~]*$", path)
                self.assertIsNone(WORDS.search(line), (path, line))

    def test_no_two_files_draw_from_one_another(self):
        drawn = {module_name(path): {node.module for node in parsed(path).body if isinstance(node, ast.ImportFrom)}
                 for path in FILES}
        while drawn:
            free = [name for name in drawn if not drawn[name] & set(drawn)]
            self.assertTrue(free, drawn)
            drawn = {name: drawn[name] for name in drawn if name not in free}


class Code(unittest.TestCase):
    def test_every_file_keeps_to_the_rules(self):
        own_modules = {module_name(path): defined_names(parsed(path)) for path in FILES}
        for path in FILES:
            self.assertEqual(faults_of(parsed(path), own_modules), [], path)

    def test_methods_and_values(self):
        methods, values = own_names([parsed(path) for path in FILES])
        self.assertEqual(methods & values, set())
        self.assertEqual((methods | values) & OWN_OF_PYTHON, set())
        for path in FILES:
            for node in ast.walk(parsed(path)):
                if isinstance(node, ast.Attribute):
                    self.assertIn(node.attr, METHODS | methods | values, (path, node.lineno))

    def test_what_is_outside_is_found(self):
        for given in ["import os", "x = f()", "x = 1\nx = 2", "x = [[1]]", "x = 1.5", "a = b = 1",
                      "def f(*xs):\n    return xs", "def f(n):\n    return n / 2", "def f():\n    '''Text.'''",
                      "def f(min):\n    return min", "def f(n):\n    return 2 ** n", "def f(n):\n    return chr(n)",
                      "def f(n):\n    x = range(n)\n    return x", "def f(n):\n    x = set(n)\n    return x",
                      "def f(n):\n    a, b = n\n    return a", "def f(n):\n    assert n", "print(1)",
                      "x = [1]\n\n\ndef f():\n    x.append(2)", "def f(n):\n    return (x for x in n)",
                      "def f(n):\n    return n is f",
                      "def f():\n    try:\n        g()\n    except Exception:\n        pass"]:
            self.assertNotEqual(faults_of(ast.parse(given), {}), [], given)
