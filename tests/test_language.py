"""Some of the rules of the language, those easily seen from the form of the code."""

import ast
import re
import unittest
from pathlib import Path

PACKAGE = Path(__file__).resolve().parent.parent / "topstretch"
STATEMENTS = (
    ast.FunctionDef, ast.ClassDef, ast.ImportFrom, ast.Assign, ast.AugAssign, ast.If, ast.While, ast.For,
    ast.Return, ast.Break, ast.Continue, ast.Pass, ast.Raise, ast.Try, ast.Expr,
)
BARRED_EXPRESSIONS = (
    ast.Set, ast.SetComp, ast.DictComp, ast.GeneratorExp, ast.NamedExpr, ast.Starred, ast.Div, ast.Await,
    ast.Yield, ast.YieldFrom, ast.MatMult,
)
OWN_OF_PYTHON = set(
    "len range enumerate zip min max sum abs sorted reversed int str bool list tuple dict set frozenset "
    "isinstance ord repr any all divmod ValueError KeyError IndexError LookupError ZeroDivisionError "
    "ArithmeticError OverflowError RuntimeError NotImplementedError StopIteration".split()
)
METHODS_OF_PYTHON = set(
    "append clear copy count endswith extend find get index insert isalnum isalpha isdigit islower isspace "
    "isupper items join keys ljust lower lstrip partition pop remove replace reverse rfind rjust rpartition "
    "rsplit rstrip setdefault split splitlines startswith strip update upper values zfill bit_length".split()
)
DUNDERS = {"__init__", "__eq__", "__repr__", "__str__", "__len__"}
BARRED_WORDS = re.compile(
    r"\b(type|typing|typing_extensions|enum|Enum|IntEnum|StrEnum|Flag|IntFlag|Generic|Protocol|ABC|ABCMeta"
    r"|namedtuple|NamedTuple|TypedDict|TYPE_CHECKING|abstractmethod)\b|dataclass|overload|contextmanager"
)


def bound_names(tree):
    names = set()
    for node in ast.walk(tree):
        if isinstance(node, (ast.FunctionDef, ast.ClassDef)):
            names.add(node.name)
        elif isinstance(node, ast.arg):
            names.add(node.arg)
        elif isinstance(node, ast.alias):
            names.add(node.asname or node.name)
        elif isinstance(node, ast.Name) and isinstance(node.ctx, ast.Store):
            names.add(node.id)
        elif isinstance(node, ast.ExceptHandler) and node.name:
            names.add(node.name)
    return names


class TestLanguage(unittest.TestCase):
    def setUp(self):
        self.files = {path: path.read_text("ascii") for path in sorted(PACKAGE.rglob("*.py"))}
        self.trees = {path: ast.parse(text) for path, text in self.files.items()}
        self.assertIn(PACKAGE / "__init__.py", self.files)

    def nodes(self, *kinds):
        for path, tree in self.trees.items():
            for node in ast.walk(tree):
                if isinstance(node, kinds):
                    yield f"{path.name}:{getattr(node, 'lineno', 0)}", node

    def test_only_plain_files(self):
        for path in PACKAGE.rglob("*"):
            if "__pycache__" not in path.parts and path.is_file():
                self.assertRegex(path.name, r"^[a-z0-9_]+\.py$")

    def test_size_and_signs(self):
        for path, text in self.files.items():
            self.assertRegex(text, r"\A[ -~\n]*\Z", path.name)
            lines = text.split("\n")
            self.assertLessEqual(len(lines), 400, path.name)
            self.assertLessEqual(max(len(line) for line in lines), 120, path.name)
            self.assertIsNone(BARRED_WORDS.search(text), path.name)
        for where, node in self.nodes(ast.FunctionDef):
            self.assertLessEqual(node.end_lineno - node.lineno + 1, 40, where)

    def test_imports(self):
        for where, node in self.nodes(ast.ImportFrom):
            self.assertEqual(node.level, 0, where)
            self.assertTrue(node.module.startswith("topstretch."), where)
            home = self.trees[PACKAGE.parent / (node.module.replace(".", "/") + ".py")]
            defined = {one.name for one in home.body if isinstance(one, (ast.FunctionDef, ast.ClassDef))}
            for one in home.body:
                if isinstance(one, ast.Assign):
                    defined.add(one.targets[0].id)
            for alias in node.names:
                self.assertIn(alias.name, defined, where)

    def test_statements(self):
        docs = {id(tree.body[0]) for tree in self.trees.values() if ast.get_docstring(tree)}
        for where, node in self.nodes(ast.stmt):
            self.assertIsInstance(node, STATEMENTS, where)
            if isinstance(node, ast.Expr) and id(node) not in docs:
                self.assertIsInstance(node.value, ast.Call, where)
            if isinstance(node, ast.Assign):
                self.assertEqual(len(node.targets), 1, where)
            if isinstance(node, (ast.While, ast.For)):
                self.assertEqual(node.orelse, [], where)
            if isinstance(node, ast.Try):
                self.assertEqual(node.finalbody, [], where)
            if isinstance(node, (ast.FunctionDef, ast.ClassDef)):
                self.assertEqual(node.decorator_list, [], where)

    def test_expressions(self):
        for where, node in self.nodes(*BARRED_EXPRESSIONS):
            self.fail(f"{where}: {node!r}")
        for where, node in self.nodes(ast.Constant):
            self.assertNotIsInstance(node.value, (float, complex, bytes), where)
            self.assertNotIn("%", str(node.value), where)
        for where, node in self.nodes(ast.Compare):
            if any(isinstance(one, (ast.Is, ast.IsNot)) for one in node.ops):
                self.assertIsInstance(node.comparators[0], ast.Constant, where)
        for where, node in self.nodes(ast.FunctionDef, ast.Lambda):
            own = node.args
            self.assertEqual([own.vararg, own.kwarg, own.kwonlyargs, own.posonlyargs], [None, None, [], []], where)

    def test_names(self):
        for path, tree in self.trees.items():
            bound = bound_names(tree)
            for name in bound - DUNDERS:
                self.assertRegex(name, r"^[A-Za-z][A-Za-z0-9_]*$", path.name)
                self.assertNotIn(name, OWN_OF_PYTHON, path.name)
                self.assertNotIn(name, dir(__builtins__) if not isinstance(__builtins__, dict) else __builtins__)
            for node in ast.walk(tree):
                if isinstance(node, ast.Name):
                    self.assertTrue(node.id in bound or node.id in OWN_OF_PYTHON, f"{path.name}: {node.id}")

    def test_methods(self):
        own = set()
        for where, node in self.nodes(ast.ClassDef):
            self.assertLessEqual(len(node.bases), 1, where)
            for one in node.body:
                self.assertIsInstance(one, (ast.FunctionDef, ast.Pass), where)
                own.add(getattr(one, "name", None))
        for where, node in self.nodes(ast.Call):
            if isinstance(node.func, ast.Attribute):
                self.assertIn(node.func.attr, METHODS_OF_PYTHON | own, where)

    def test_no_two_files_draw_from_one_another(self):
        draws = {}
        for path, tree in self.trees.items():
            modules = [node.module for node in ast.walk(tree) if isinstance(node, ast.ImportFrom)]
            draws[path.stem] = {module.split(".")[-1] for module in modules}
        while draws:
            ends = {name for name, drawn in draws.items() if not drawn}
            self.assertTrue(ends, draws)
            draws = {name: drawn - ends for name, drawn in draws.items() if name not in ends}

    def test_values_of_objects(self):
        of_python = set()
        for kind in (str, int, list, tuple, dict, set, bytes):
            of_python.update(dir(kind))
        values = {node.attr for _, node in self.nodes(ast.Attribute) if isinstance(node.ctx, ast.Store)}
        methods = set()
        for _, node in self.nodes(ast.ClassDef):
            methods.update(getattr(one, "name", "") for one in node.body)
        self.assertEqual(values & of_python, set())
        self.assertEqual((methods - DUNDERS) & of_python, set())
        self.assertEqual(values & methods, set())
