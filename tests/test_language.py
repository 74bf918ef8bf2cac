"""The package's files keep to the small part of Python that this program is written in, rule by rule.

Each rule is a function that gives back the places where it is broken. The package is held against all of them, and
each of them against rows that break it.
"""

import ast
import builtins
import pathlib
import re
import tempfile
import unittest

PACKAGE = pathlib.Path(__file__).resolve().parent.parent / "cellpacks"
MODULES = ["__init__.py", "choosing.py", "dealing.py", "resisting.py", "shop.py", "stock.py"]

ERRORS = """
    Exception ValueError TypeError KeyError IndexError LookupError ZeroDivisionError ArithmeticError OverflowError
    RuntimeError NotImplementedError AttributeError StopIteration
""".split()
CALLED = """
    len range enumerate zip min max sum abs sorted reversed int str bool list tuple dict set frozenset isinstance ord
    repr any all divmod
""".split()
KEYWORDS = {
    "sorted": ["key", "reverse"], "min": ["key", "default"], "max": ["key", "default"], "sum": ["start"],
    "enumerate": ["start"], "zip": ["strict"],
}
METHODS = """
    append clear copy count endswith extend find get index insert isalnum isalpha isdigit islower isspace isupper
    items join keys ljust lower lstrip partition pop remove replace reverse rfind rjust rpartition rsplit rstrip
    setdefault split splitlines startswith strip update upper values zfill bit_length
""".split()
CHANGING = "append clear extend insert pop remove reverse setdefault update add discard".split()
VALUES_TOO = "count index title find get join lower upper split strip copy add".split()
UNDERSCORED = "__init__ __eq__ __repr__ __str__ __len__".split()
UNUSED = """
    register mro elements open input version_info with_traceback add_note f_back f_locals f_globals f_code tb_next
    tb_frame co_names co_code
""".split()
UNUSED_NAMES = """
    attrgetter breakpoint builtins compile copyright credits delattr dir eval exec exit gc getattr globals hasattr help
    id importlib license locals methodcaller os quit setattr super type vars sys __name__
""".split()
FILES_NOT_CALLED = "test tests testing site conftest sitecustomize usercustomize typing enum".split()
WORDS = re.compile(
    r"\b(type|typing|typing_extensions|enum|Enum|IntEnum|StrEnum|Flag|IntFlag|Generic|Protocol|ABC|ABCMeta|namedtuple"
    r"|NamedTuple|TypedDict|TYPE_CHECKING|abstractmethod)\b|dataclass|overload|contextmanager"
)
STATEMENTS = (
    ast.Assign, ast.AugAssign, ast.If, ast.While, ast.For, ast.Return, ast.Break, ast.Continue, ast.Pass, ast.Raise,
    ast.Try, ast.Expr, ast.FunctionDef, ast.ClassDef, ast.ImportFrom,
)
OUTSIDE = (
    ast.Div, ast.MatMult, ast.SetComp, ast.DictComp, ast.GeneratorExp, ast.NamedExpr, ast.Starred, ast.Await,
    ast.Yield, ast.YieldFrom,
)
WALKED = "zip enumerate reversed range".split()
WALKERS = "list tuple dict sorted sum any all enumerate zip min max".split()
PLAIN_NAME = re.compile(r"[A-Za-z][A-Za-z0-9_]*")


class Source:
    def __init__(self, name, text):
        self.name = name
        self.text = text
        self.rows = text.splitlines()
        self.tree = ast.parse(text)
        for node in ast.walk(self.tree):
            for child in ast.iter_child_nodes(node):
                child.parent = node

    def nodes(self, *kinds):
        return [node for node in ast.walk(self.tree) if isinstance(node, kinds)]

    def defs(self):
        return self.nodes(ast.FunctionDef)

    def classes(self):
        return [node.name for node in self.nodes(ast.ClassDef)]

    def imported(self):
        return [alias.name for node in self.nodes(ast.ImportFrom) for alias in node.names]

    def top_values(self):
        return {node.targets[0].id: node.value for node in self.tree.body if isinstance(node, ast.Assign)}

    def docstring(self, node):
        value = getattr(node, "value", None)
        return node is self.tree.body[0] and isinstance(value, ast.Constant) and isinstance(value.value, str)


def is_call_of(node, names):
    return isinstance(node, ast.Call) and isinstance(node.func, ast.Name) and node.func.id in names


def is_method_call(node, names):
    return isinstance(node, ast.Call) and isinstance(node.func, ast.Attribute) and node.func.attr in names


def bound_names(source):
    """Every name that is given a value or a meaning, and the node that does so."""
    found = [(node.id, node) for node in source.nodes(ast.Name) if not isinstance(node.ctx, ast.Load)]
    found += [(node.arg, node) for node in source.nodes(ast.arg)]
    found += [(node.name, node) for node in source.nodes(ast.FunctionDef, ast.ClassDef)]
    return found


def is_method(node):
    return isinstance(node, ast.FunctionDef) and isinstance(node.parent, ast.ClassDef)


def is_plain(node, known):
    if isinstance(node, (ast.List, ast.Tuple)):
        return all(is_plain(part, known) for part in node.elts)
    if isinstance(node, ast.Dict):
        return all(is_plain(part, known) for part in node.keys + node.values)
    if isinstance(node, ast.UnaryOp):
        return isinstance(node.op, ast.USub) and isinstance(node.operand, ast.Constant)
    if isinstance(node, ast.Name):
        return node.id in known
    return isinstance(node, ast.Constant) and isinstance(node.value, (int, str, bool, type(None)))


def rule_2(source):
    bad = source.nodes(ast.Import)
    for node in source.nodes(ast.ImportFrom):
        own = node.level == 0 and node.module.startswith("cellpacks.") and "__main__" not in node.module
        if not own or node.parent is not source.tree or any(alias.name == "*" for alias in node.names):
            bad.append(node)
    return bad


def rule_3(source):
    bad = []
    known = []
    for node in source.tree.body:
        if isinstance(node, ast.FunctionDef):
            known.append(node.name)
        elif isinstance(node, ast.Assign):
            plain_target = isinstance(node.targets[0], ast.Name)
            inside = isinstance(node.value, (ast.List, ast.Tuple, ast.Dict))
            if not plain_target or not is_plain(node.value, known if inside else []):
                bad.append(node)
        elif not isinstance(node, (ast.ImportFrom, ast.ClassDef)) and not source.docstring(node):
            bad.append(node)
    return bad


def rule_4(source):
    bad = source.nodes(ast.AsyncFunctionDef)
    for node in source.defs():
        handed = node.args
        if handed.vararg or handed.kwarg or handed.kwonlyargs or handed.posonlyargs or node.decorator_list:
            bad.append(node)
        bad += [value for value in handed.defaults if not is_plain(value, [])]
    return bad


def rule_5(source):
    bad = []
    for node in source.nodes(ast.ClassDef):
        bases_fit = all(base.id in source.classes() + source.imported() + ERRORS for base in node.bases)
        if len(node.bases) > 1 or node.keywords or node.decorator_list or not bases_fit:
            bad.append(node)
        for inner in node.body:
            if not isinstance(inner, (ast.FunctionDef, ast.Pass)):
                bad.append(inner)
            elif is_method(inner) and inner.name.startswith("_") and inner.name not in UNDERSCORED:
                bad.append(inner)
    return bad


def rule_6(source):
    bad = [node for node in source.nodes(ast.stmt) if not isinstance(node, STATEMENTS + (ast.Import,))]
    for node in source.nodes(ast.Expr):
        if not source.docstring(node) and not isinstance(node.value, ast.Call):
            bad.append(node)
    for node in source.nodes(ast.Assign):
        if len(node.targets) != 1 or isinstance(node.targets[0], (ast.Tuple, ast.List)):
            bad.append(node)
    bad += [node for node in source.nodes(ast.For, ast.While) if node.orelse]
    bad += [node for node in source.nodes(ast.Try) if node.finalbody]
    bad += [node for node in source.nodes(ast.ExceptHandler) if node.type is None]
    return bad


def rule_7(source):
    bad = source.nodes(*OUTSIDE)
    bad += [node for node in source.nodes(ast.Constant) if isinstance(node.value, (float, complex, bytes))]
    for node in source.nodes(ast.ListComp):
        if len(node.generators) != 1 or len(node.generators[0].ifs) > 1:
            bad.append(node)
    for node in source.nodes(ast.FormattedValue):
        if not isinstance(node.value, ast.Name) or node.format_spec or node.conversion not in (-1, ord("r")):
            bad.append(node)
    top_sets = [node for top in source.top_values().values() for node in ast.walk(top) if isinstance(node, ast.Set)]
    return bad + top_sets


def rule_8(source):
    bad = []
    for node in source.nodes(ast.Name):
        if hasattr(builtins, node.id) and node.id not in CALLED + ERRORS + ["chr"]:
            bad.append(node)
    bad += [node for name, node in bound_names(source) if name in CALLED + ERRORS and not is_method(node)]
    bad += [node for name, node in bound_names(source) if name.startswith("__") and name not in UNDERSCORED]
    return bad + [node for node in source.nodes(ast.Attribute) if node.attr in ("format", "format_map", "mro")]


def rule_9(source):
    return [node for node in source.nodes(ast.Name) if node.id in ("print", "open", "input", "sys")]


def rule_10(source):
    bad = [node for node in source.defs() if node.end_lineno - node.lineno + 1 > 40]
    if len(source.rows) > 400 or "\t" in source.text or any(len(row) > 120 for row in source.rows):
        bad.append(source.tree)
    return bad


def rule_11(source):
    walks = [node.iter for node in source.nodes(ast.For, ast.comprehension)]
    return [node for node in walks if isinstance(node, ast.Set) or is_call_of(node, ("set", "frozenset"))]


def rule_12(source):
    named = bound_names(source) + [(node.id, node) for node in source.nodes(ast.Name)]
    named += [(node.attr, node) for node in source.nodes(ast.Attribute)]
    return [node for name, node in named if not PLAIN_NAME.fullmatch(name) and name not in UNDERSCORED]


def rule_13(source):
    rows = [node.lineno for node in source.nodes(ast.Lambda)]
    bad = [node for node in source.nodes(ast.Lambda) if rows.count(node.lineno) > 1]
    return bad + [node for node in source.nodes(ast.Set) if len(node.elts) > 2]


def rule_14(source):
    stem = source.name[:-len(".py")]
    plain = re.fullmatch(r"[a-z][a-z0-9_]*", stem)
    like_another = stem in FILES_NOT_CALLED or stem.startswith("test_") or hasattr(builtins, stem)
    named_well = stem == "__init__" or (plain and not like_another)
    signs_fit = re.fullmatch(r"[ -~\n]*", source.text)
    return [] if named_well and signs_fit else [source.tree]


def changes_of(source):
    """The names of those that are changed in place, and where."""
    found = []
    for node in source.nodes(ast.Call):
        if is_method_call(node, CHANGING) and isinstance(node.func.value, ast.Name):
            found.append((node.func.value.id, node))
    for node in source.nodes(ast.Subscript):
        if not isinstance(node.ctx, ast.Load) and isinstance(node.value, ast.Name):
            found.append((node.value.id, node))
    return found


def only_read(node):
    parent = node.parent
    if isinstance(parent, (ast.Subscript, ast.Compare, ast.For, ast.comprehension)):
        return True
    if isinstance(parent, ast.Attribute):
        return parent.attr in ("get", "items", "keys", "values", "index", "count")
    return is_call_of(parent, CALLED)


def rule_15(source):
    tops = [getattr(node, "name", None) or node.targets[0].id for node in source.tree.body if isinstance(
        node, (ast.FunctionDef, ast.ClassDef, ast.Assign))]
    bad = [node for node in source.tree.body if getattr(node, "name", None) in [n for n in tops if tops.count(n) > 1]]
    bad += [node for node in source.nodes(ast.ClassDef) if node.parent is not source.tree]
    held = [name for name, value in source.top_values().items() if isinstance(value, (ast.List, ast.Dict))]
    for name in held:
        inner = [node for node in ast.walk(source.top_values()[name]) if isinstance(node, (ast.List, ast.Dict))]
        bad += inner[1:]
        uses = [node for node in source.nodes(ast.Name) if node.id == name and isinstance(node.ctx, ast.Load)]
        bad += [node for node in uses if not only_read(node)]
    bad += [node for name, node in changes_of(source) if name in held]
    for name, node in bound_names(source):
        local = isinstance(node, (ast.Name, ast.arg)) or node.parent is not source.tree
        if local and not is_method(node) and (name in source.classes() + source.imported() or hasattr(builtins, name)):
            bad.append(node)
    return bad


def rule_16(source):
    if source.name == "__init__.py":
        return source.nodes(ast.ImportFrom) + source.tree.body[1:]
    return source.nodes(ast.Import) + [node for node in source.nodes(ast.ImportFrom) if node.module == "cellpacks"]


def rule_17(source):
    bad = [node for node in source.nodes(ast.Name) if node.id in UNUSED + UNUSED_NAMES]
    bad += [node for name, node in bound_names(source) if name in UNUSED]
    bad += [node for node in source.nodes(ast.Attribute) if node.attr in UNUSED]
    return bad + ([source.tree] if WORDS.search(source.text) else [])


def class_stands_well(node):
    parent = node.parent
    if isinstance(parent, ast.Call):
        return parent.func is node or is_call_of(parent, ("isinstance",))
    if isinstance(parent, ast.Attribute):
        return parent.attr == "__init__"
    return isinstance(parent, (ast.ClassDef, ast.ExceptHandler, ast.Raise))


def given_values(source):
    """The values that are given to attributes, and where."""
    return [(node.attr, node) for node in source.nodes(ast.Attribute) if not isinstance(node.ctx, ast.Load)]


def rule_18(source):
    bad = [node for node in source.nodes(ast.Name) if node.id in source.classes() and not class_stands_well(node)]
    tops = list(source.top_values()) + source.classes()
    for name, node in given_values(source):
        if not isinstance(node.value, ast.Name) or node.value.id in tops:
            bad.append(node)
    methods = [node for node in source.defs() if is_method(node)]
    bad += [node for node in methods if node.name in [name for name, value in given_values(source)]]
    for node in source.nodes(ast.ClassDef):
        names = [inner.name for inner in node.body if is_method(inner)]
        if len(names) != len(set(names)) or any(base.id in ("StopIteration", "AttributeError") for base in node.bases):
            bad.append(node)
    return bad


# Refusals are numbers that are answered: nothing is taken, and what is raised is made on the spot.
def rule_19(source):
    return source.nodes(ast.Try) + [node for node in source.nodes(ast.Raise) if not isinstance(node.exc, ast.Call)]


def rule_20(source):
    bad = []
    for node in source.nodes(ast.Compare):
        for operator, beside in zip(node.ops, node.comparators):
            plain = isinstance(beside, ast.Constant) and beside.value in (None, True, False)
            if isinstance(operator, (ast.Is, ast.IsNot)) and not plain:
                bad.append(node)
    return bad


def rule_21(source):
    bad = [node for node in source.nodes(ast.arg) if node.annotation]
    return bad + [node for node in source.defs() if node.returns] + source.nodes(ast.AnnAssign)


def rule_22(source):
    bad = []
    for node in source.nodes(ast.Name):
        parent = node.parent
        as_key = isinstance(parent, ast.keyword) and parent.arg == "key"
        in_isinstance = isinstance(parent, ast.Tuple) or is_call_of(parent, ("isinstance",))
        called = isinstance(parent, ast.Call) and parent.func is node
        if node.id in CALLED and isinstance(node.ctx, ast.Load) and not (called or as_key or in_isinstance):
            bad.append(node)
    for node in source.nodes(ast.Call):
        named = [word.arg for word in node.keywords]
        if is_call_of(node, CALLED + ERRORS):
            bad += [node for word in named if word not in KEYWORDS.get(node.func.id, [])]
        elif isinstance(node.func, ast.Attribute) and named:
            bad.append(node)
    return bad


def walked_at_once(node):
    parent = node.parent
    if isinstance(parent, (ast.For, ast.comprehension)):
        return parent.iter is node
    return is_call_of(parent, WALKERS) or is_method_call(parent, ("join",))


def rule_23(source):
    kept = [node for node in source.nodes(ast.Call) if is_call_of(node, WALKED)]
    kept += [node for node in source.nodes(ast.Call) if is_method_call(node, ("items", "keys", "values"))]
    bad = [node for node in kept if not walked_at_once(node)]
    for loop in source.nodes(ast.For):
        walked = ast.unparse(loop.iter)
        for name, node in changes_of(source):
            within = loop.lineno < node.lineno <= loop.end_lineno
            if within and re.search(rf"\b{name}\b", walked) and not is_call_of(loop.iter, ("list", "range", "sorted")):
                bad.append(node)
    return bad


# A dict of True is kept in a set's place.
def rule_24(source):
    return source.nodes(ast.Set) + [node for node in source.nodes(ast.Call) if is_call_of(node, ("set", "frozenset"))]


def rule_25(source):
    own = [node.name for node in source.defs() if is_method(node)]
    bad = [node for node in source.nodes(ast.Call) if isinstance(node.func, ast.Attribute)
           and node.func.attr not in METHODS + own + ["__init__"]]
    for node in source.nodes(ast.Attribute):
        handed_on = not (isinstance(node.parent, ast.Call) and node.parent.func is node)
        if node.attr in METHODS and handed_on and node.attr not in VALUES_TOO:
            bad.append(node)
    return bad


def rule_26(source):
    taken = [name for kind in (str, int, list, dict, set, bytes) for name in dir(kind)]
    bad = [node for name, node in given_values(source) if name in taken + ["args"] and name not in VALUES_TOO]
    methods = [node for node in source.defs() if is_method(node) and node.name not in UNDERSCORED]
    return bad + [node for node in methods if node.name in taken and node.name not in METHODS + ["add", "discard"]]


def rule_27(source):
    bad = [node for node in source.nodes(ast.Name) if node.id == "chr"]
    for node in source.nodes(ast.BinOp, ast.AugAssign):
        exponent = getattr(node, "right", None) or getattr(node, "value", None)
        written = isinstance(exponent, ast.Constant) and isinstance(exponent.value, int) and 0 <= exponent.value <= 64
        if isinstance(node.op, ast.Pow) and not written:
            bad.append(node)
    texts = [node for node in source.nodes(ast.Constant) if isinstance(node.value, str)]
    bad += [node for node in texts if chr(37) in node.value]
    bad += [node for node in source.nodes(ast.Constant) if len(str(node.value)) > 900 and isinstance(node.value, int)]
    return bad + ([source.tree] if re.search(r"\\[^nt\\'\"]", source.text) else [])


def rule_28(source):
    bad = []
    for node in source.defs():
        returns = [inner for inner in ast.walk(node) if isinstance(inner, ast.Return)]
        if node.name == "__init__" and any(inner.value is not None for inner in returns):
            bad.append(node)
        if node.name in UNDERSCORED[1:]:
            bad.append(node)
    return bad


RULES = {
    2: rule_2, 3: rule_3, 4: rule_4, 5: rule_5, 6: rule_6, 7: rule_7, 8: rule_8, 9: rule_9, 10: rule_10, 11: rule_11,
    12: rule_12, 13: rule_13, 14: rule_14, 15: rule_15, 16: rule_16, 17: rule_17, 18: rule_18, 19: rule_19,
    20: rule_20, 21: rule_21, 22: rule_22, 23: rule_23, 24: rule_24, 25: rule_25, 26: rule_26, 27: rule_27,
    28: rule_28,
}
BROKEN = {
    2: ["import os", "from os import path", "from cellpacks.shop import *", "from .shop import answers",
        "def f():\n    from cellpacks.shop import answers", "from cellpacks.__main__ import f"],
    3: ["print(1)", "if 1:\n    pass", "A = len(B)", "A = [f]\ndef f():\n    pass", "A.b = 1", "A = -B"],
    4: ["def f(*a):\n    pass", "def f(**a):\n    pass", "def f(*, a):\n    pass", "@g\ndef f():\n    pass",
        "def f(a=g()):\n    pass"],
    5: ["class A:\n    b = 1", "class A(int):\n    pass", "class A(Exception, ValueError):\n    pass",
        "@g\nclass A:\n    pass", "class A:\n    def __add__(self, b):\n        pass"],
    6: ["def f():\n    with a:\n        pass", "def f():\n    del a", "def f():\n    global a",
        "def f():\n    assert a", "def f():\n    a = b = 1", "def f():\n    a, b = 1, 2", "def f():\n    a + 1",
        "def f():\n    for a in b:\n        pass\n    else:\n        pass", "def f():\n    'a docstring'",
        "def f():\n    try:\n        g()\n    finally:\n        g()",
        "def f():\n    match a:\n        case 1:\n            pass"],
    7: ["A = 1.5", "A = b'a'", "def f():\n    return a / b", "def f():\n    return (a for a in b)",
        "def f():\n    return {a: a for a in b}", "def f():\n    return [a for a in b for c in a]",
        "def f():\n    return (a := 1)", "def f():\n    return [*a]", "def f():\n    return f'{a.b}'",
        "def f():\n    return f'{a:3}'", "A = {1}"],
    8: ["def f():\n    return hash(1)", "def f():\n    len = 1", "def f(sum):\n    pass", "def __f():\n    pass",
        "def f():\n    return a.format(1)", "def f():\n    return map(a, b)"],
    9: ["def f():\n    print(1)", "def f():\n    return open(1)"],
    10: ["def f():\n" + "    a = 1\n" * 40, "# a\n" * 401, "#" + "a" * 120, "def f():\n\tpass"],
    11: ["def f():\n    for a in set(b):\n        g(a)", "def f():\n    return [a for a in {1, 2}]"],
    12: ["def f(_a):\n    pass", "def f():\n    for _ in a:\n        g()", "def f():\n    return a._b",
         "def _f():\n    pass"],
    13: ["def f():\n    return g(lambda a: a, lambda a: 1)", "def f():\n    a = {1, 2, 3}"],
    14: ["# \u00e9", "def f():\n\tpass"],
    15: ["def f():\n    pass\ndef f():\n    pass", "def f():\n    class A:\n        pass", "A = [[1]]", "A = {1: [2]}",
         "A = [1]\ndef f():\n    A.append(2)", "A = [1]\ndef f():\n    A[0] = 2", "A = [1]\ndef f():\n    return A",
         "class A:\n    pass\ndef f(A):\n    pass", "from cellpacks.stock import held\ndef f():\n    held = 1",
         "def f():\n    hash = 1", "def f(id):\n    pass"],
    16: ["import cellpacks.shop", "from cellpacks import shop"],
    17: ["def f():\n    return id(a)", "def f():\n    return a.register", "# its type", "# a dataclasses row",
         "def f():\n    return getattr(a, b)", "def f():\n    elements = 1"],
    18: ["class A:\n    pass\ndef f():\n    return A", "class A:\n    pass\ndef f():\n    A.b = 1",
         "def f():\n    a[0].b = 1",
         "class A:\n    def __init__(self):\n        self.b = 1\n    def b(self):\n        pass",
         "class A(StopIteration):\n    pass"],
    19: ["def f():\n    try:\n        g()\n    except Exception:\n        pass", "def f():\n    raise ValueError"],
    20: ["def f():\n    return a is b", "def f():\n    return None is not a.b"],
    21: ["def f(a: int):\n    pass", "def f() -> int:\n    pass", "def f():\n    a: int = 1"],
    22: ["def f():\n    a = len", "def f():\n    return g(sorted)", "def f():\n    return int(a, base=2)",
         "def f():\n    return a.split(sep=b)"],
    23: ["def f():\n    a = range(3)", "def f():\n    return zip(a, b)", "def f():\n    return a.items()",
         "def f():\n    for b in a:\n        a.append(b)", "def f():\n    for k, b in enumerate(a):\n        a[k] = 1"],
    24: ["def f():\n    a = set(b)", "def f():\n    a = {1}"],
    25: ["def f():\n    a.sort()", "def f():\n    return a.title()", "def f():\n    b = a.append"],
    26: ["class A:\n    def __init__(self):\n        self.items = 1", "class A:\n    def title(self):\n        pass",
         "class A:\n    def __init__(self):\n        self.args = 1"],
    27: ["def f():\n    return 2 ** a", "def f():\n    return 2 ** 65", "A = '100%'", "def f():\n    return chr(1)",
         "A = '\\x41'"],
    28: ["class A:\n    def __init__(self):\n        return None",
         "class A:\n    def __len__(self):\n        return self.b"],
}


def place(source, node):
    return f"{source.name}:{getattr(node, 'lineno', 1)}"


def strange_files(folder):
    found = [path for path in folder.iterdir() if path.name != "__pycache__"]
    return [path.name for path in found if not path.is_file() or not re.fullmatch(r"\w+\.py", path.name, re.ASCII)]


class Language(unittest.TestCase):
    def setUp(self):
        self.sources = [Source(name, (PACKAGE / name).read_text(encoding="utf-8")) for name in MODULES]

    def test_nothing_else_lies_in_the_package(self):
        found = sorted(path.name for path in PACKAGE.iterdir() if path.name != "__pycache__")
        self.assertEqual(found, MODULES)
        self.assertEqual(strange_files(PACKAGE), [])

    def test_each_rule_is_kept(self):
        for number, rule in RULES.items():
            for source in self.sources:
                with self.subTest(rule=f"L{number}", file=source.name):
                    self.assertEqual([place(source, node) for node in rule(source)], [])

    def test_imports_run_one_way_and_name_the_file_that_defines(self):
        defined = {f"cellpacks.{source.name[:-3]}": [name for name, node in bound_names(source)
                                                     if getattr(node, "parent", None) is source.tree]
                   for source in self.sources}
        done = []
        for name in ("__init__", "dealing", "resisting", "stock", "choosing", "shop"):
            source = [source for source in self.sources if source.name == f"{name}.py"][0]
            for node in source.nodes(ast.ImportFrom):
                self.assertIn(node.module, done, place(source, node))
                for alias in node.names:
                    self.assertIn(alias.name, defined[node.module], place(source, node))
                    self.assertIsNone(alias.asname, place(source, node))
            done.append(f"cellpacks.{name}")
        self.assertEqual(len(done), len(MODULES))

    def test_no_name_is_a_method_in_one_class_and_a_value_in_another(self):
        methods = [node.name for source in self.sources for node in source.defs() if is_method(node)]
        values = [name for source in self.sources for name, node in given_values(source)]
        self.assertEqual([name for name in methods if name in values], [])


class Rules(unittest.TestCase):
    def test_each_rule_is_seen_to_be_broken(self):
        self.assertEqual(list(BROKEN), list(RULES))
        for number, texts in BROKEN.items():
            for text in texts:
                with self.subTest(rule=f"L{number}", text=text[:60]):
                    self.assertNotEqual(RULES[number](Source("plain.py", text + "\n")), [])

    def test_a_strange_file_is_seen(self):
        with tempfile.TemporaryDirectory() as name:
            folder = pathlib.Path(name)
            (folder / "plain.py").write_text("")
            self.assertEqual(strange_files(folder), [])
            (folder / "notes.txt").write_text("")
            (folder / "a-b.py").write_text("")
            (folder / "inner").mkdir()
            self.assertEqual(sorted(strange_files(folder)), ["a-b.py", "inner", "notes.txt"])

    def test_a_file_with_another_name_is_seen(self):
        for name in ("Shop.py", "test_shop.py", "sum.py", "site.py", "tests.py"):
            self.assertNotEqual(rule_14(Source(name, "")), [], name)


if __name__ == "__main__":
    unittest.main()
