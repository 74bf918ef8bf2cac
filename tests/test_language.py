"""The package's files keep to the small part of Python that this program is written in.

What can be read off a file is held here: its signs and sizes, its statements, names and imports.
"""

import ast
import builtins
import pathlib
import re
import unittest

PACKAGE = pathlib.Path(__file__).resolve().parent.parent / "cellpacks"
MODULES = ["__init__.py", "dealing.py", "shop.py", "stock.py"]

STATEMENTS = (
    ast.Assign, ast.AugAssign, ast.If, ast.While, ast.For, ast.Return, ast.Break, ast.Continue, ast.Pass, ast.Raise,
    ast.Expr, ast.FunctionDef, ast.ClassDef, ast.ImportFrom,
)
OUTSIDE = (
    ast.Div, ast.MatMult, ast.Set, ast.SetComp, ast.DictComp, ast.GeneratorExp, ast.NamedExpr, ast.Starred, ast.Await,
    ast.Yield, ast.YieldFrom,
)
BUILT_IN = """
    len range enumerate zip min max sum abs sorted reversed int str bool list tuple dict set frozenset isinstance ord
    repr any all divmod Exception ValueError TypeError KeyError IndexError LookupError ZeroDivisionError
    ArithmeticError OverflowError RuntimeError NotImplementedError
""".split()
METHODS = """
    append clear copy count endswith extend find get index insert isalnum isalpha isdigit islower isspace isupper
    items join keys ljust lower lstrip partition pop remove replace reverse rfind rjust rpartition rsplit rstrip
    setdefault split splitlines startswith strip update upper values zfill bit_length
""".split()
WORDS = re.compile(
    r"\b(type|typing|typing_extensions|enum|Enum|IntEnum|StrEnum|Flag|IntFlag|Generic|Protocol|ABC|ABCMeta|namedtuple"
    r"|NamedTuple|TypedDict|TYPE_CHECKING|abstractmethod)\b|dataclass|overload|contextmanager"
)


def is_docstring(tree, node):
    return bool(tree.body) and node is tree.body[0] and isinstance(node.value, ast.Constant)


class Language(unittest.TestCase):
    def setUp(self):
        self.texts = {name: (PACKAGE / name).read_text(encoding="utf-8") for name in MODULES}
        self.trees = {name: ast.parse(text) for name, text in self.texts.items()}

    def nodes(self, *kinds):
        for name, tree in self.trees.items():
            for node in ast.walk(tree):
                if isinstance(node, kinds):
                    yield f"{name}:{getattr(node, 'lineno', 0)}", tree, node

    def test_nothing_else_lies_in_the_package(self):
        found = sorted(path.name for path in PACKAGE.iterdir() if path.name != "__pycache__")
        self.assertEqual(found, MODULES)

    def test_signs_and_sizes(self):
        for name, text in self.texts.items():
            self.assertIsNone(re.search(r"[^ -~\n]", text), name)
            self.assertLessEqual(len(text.splitlines()), 400, name)
            self.assertLessEqual(max(len(row) for row in text.splitlines()), 120, name)
            self.assertIsNone(WORDS.search(text), name)
        for place, tree, node in self.nodes(ast.FunctionDef):
            self.assertLessEqual(node.end_lineno - node.lineno + 1, 40, place)

    def test_statements(self):
        for place, tree, node in self.nodes(ast.stmt):
            self.assertIsInstance(node, STATEMENTS, place)
            if isinstance(node, ast.Expr) and not is_docstring(tree, node):
                self.assertIsInstance(node.value, ast.Call, place)
            if isinstance(node, ast.Assign):
                self.assertEqual(len(node.targets), 1, place)
            if isinstance(node, (ast.For, ast.While)):
                self.assertEqual(node.orelse, [], place)

    def test_expressions(self):
        for place, tree, node in self.nodes(*OUTSIDE):
            self.fail(f"{place}: {type(node).__name__}")
        for place, tree, node in self.nodes(ast.Constant):
            self.assertNotIsInstance(node.value, (float, complex, bytes), place)
        for place, tree, node in self.nodes(ast.ListComp):
            self.assertEqual(len(node.generators), 1, place)
            self.assertLessEqual(len(node.generators[0].ifs), 1, place)

    def test_imports_are_the_packages_own_and_run_one_way(self):
        drawn = {name: [] for name in MODULES}
        for place, tree, node in self.nodes(ast.ImportFrom):
            self.assertTrue(node.level == 0 and node.module.startswith("cellpacks."), place)
            drawn[place.split(":")[0]].append(node.module)
        self.assertEqual(drawn["__init__.py"] + drawn["dealing.py"] + drawn["stock.py"], [])
        self.assertEqual(drawn["shop.py"], ["cellpacks.dealing", "cellpacks.stock"])

    def test_names(self):
        for place, tree, node in self.nodes(ast.Name):
            self.assertFalse(node.id.startswith("_"), place)
            if hasattr(builtins, node.id):
                self.assertIn(node.id, BUILT_IN, place)
                self.assertIsInstance(node.ctx, ast.Load, place)
        for place, tree, node in self.nodes(ast.arg):
            self.assertFalse(node.arg.startswith("_") or hasattr(builtins, node.arg), place)
            self.assertIsNone(node.annotation, place)
        for place, tree, node in self.nodes(ast.Call):
            if isinstance(node.func, ast.Attribute):
                self.assertIn(node.func.attr, METHODS, place)

    def test_functions_and_classes(self):
        for place, tree, node in self.nodes(ast.FunctionDef, ast.ClassDef):
            self.assertEqual(node.decorator_list, [], place)
        for place, tree, node in self.nodes(ast.FunctionDef):
            self.assertIsNone(node.args.vararg or node.args.kwarg or node.returns, place)
            self.assertEqual(node.args.kwonlyargs + node.args.posonlyargs, [], place)
        for place, tree, node in self.nodes(ast.ClassDef):
            for inner in node.body:
                self.assertIsInstance(inner, (ast.FunctionDef, ast.Pass), place)

    def test_the_top_of_a_file(self):
        allowed = (ast.Expr, ast.ImportFrom, ast.Assign, ast.FunctionDef, ast.ClassDef)
        for name, tree in self.trees.items():
            bound = []
            for node in tree.body:
                self.assertIsInstance(node, allowed, name)
                if isinstance(node, ast.Assign):
                    bound.append(node.targets[0].id)
                if isinstance(node, (ast.FunctionDef, ast.ClassDef)):
                    bound.append(node.name)
            self.assertEqual(len(bound), len(set(bound)), name)


if __name__ == "__main__":
    unittest.main()
