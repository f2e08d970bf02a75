"""Those rules of LANGUAGE.md that can be seen in a file's form."""

import ast
import builtins
import pathlib
import re
import unittest

PACKAGE = pathlib.Path(__file__).resolve().parent.parent / "bitbus"

NAMES = set(
    "len range enumerate zip min max sum abs sorted reversed int str bool list tuple dict set frozenset isinstance "
    "ord repr any all divmod Exception ValueError TypeError KeyError IndexError LookupError ZeroDivisionError "
    "ArithmeticError OverflowError RuntimeError NotImplementedError AttributeError StopIteration".split()
)
METHODS = set(
    "append clear copy count endswith extend find get index insert isalnum isalpha isdigit islower isspace isupper "
    "items join keys ljust lower lstrip partition pop remove replace reverse rfind rjust rpartition rsplit rstrip "
    "setdefault split splitlines startswith strip update upper values zfill bit_length __init__".split()
)
WORDS = (
    r"\b(type|typing|typing_extensions|enum|Enum|IntEnum|StrEnum|Flag|IntFlag|Generic|Protocol|ABC|ABCMeta|namedtuple"
    r"|NamedTuple|TypedDict|TYPE_CHECKING|abstractmethod)\b|dataclass|overload|contextmanager"
)
STATEMENTS = (
    ast.Assign, ast.AugAssign, ast.If, ast.While, ast.For, ast.Return, ast.Break, ast.Continue, ast.Pass, ast.Raise,
    ast.Try, ast.Expr, ast.FunctionDef, ast.ClassDef, ast.ImportFrom,
)
NOT_USED = (
    ast.GeneratorExp, ast.SetComp, ast.DictComp, ast.NamedExpr, ast.Starred, ast.Yield, ast.YieldFrom, ast.Await,
    ast.Div, ast.MatMult,
)


class Language(unittest.TestCase):
    def setUp(self):
        self.sources = {path.name: path.read_text("ascii") for path in sorted(PACKAGE.glob("*.py"))}
        self.trees = {name: ast.parse(source) for name, source in self.sources.items()}

    def nodes(self, kinds):
        for name, tree in self.trees.items():
            for node in ast.walk(tree):
                if isinstance(node, kinds):
                    yield f"{name}:{getattr(node, 'lineno', '')}", node

    def test_files(self):
        found = [path.name for path in PACKAGE.iterdir() if path.name != "__pycache__"]
        self.assertIn("__init__.py", found)
        for name in found:
            self.assertRegex(name, r"^[a-z_0-9]+\.py$")

    def test_signs_and_sizes(self):
        for name, source in self.sources.items():
            self.assertRegex(source, r"\A[\n -~]*\Z", name)
            self.assertLessEqual(len(source.splitlines()), 400, name)
            for line in source.splitlines():
                self.assertLessEqual(len(line), 120, line)
            self.assertIsNone(re.search(WORDS, source), name)

    def test_functions(self):
        for where, node in self.nodes(ast.FunctionDef):
            self.assertLessEqual(node.end_lineno - node.lineno + 1, 40, where)
            self.assertEqual(node.decorator_list, [], where)
            found = node.args
            self.assertFalse(found.vararg or found.kwarg or found.kwonlyargs or found.posonlyargs, where)

    def test_statements_and_expressions(self):
        for where, node in self.nodes(ast.stmt):
            self.assertIsInstance(node, STATEMENTS, where)
            if isinstance(node, ast.Assign):
                self.assertEqual(len(node.targets), 1, where)
            if isinstance(node, (ast.For, ast.While)):
                self.assertEqual(node.orelse, [], where)
            if isinstance(node, ast.Expr) and not isinstance(node.value, ast.Call):
                self.assertEqual((where.split(":")[1], type(node.value)), ("1", ast.Constant), where)
        for where, node in self.nodes(NOT_USED):
            self.fail(f"{where} {node}")
        for where, node in self.nodes(ast.Constant):
            self.assertIn(type(node.value), (int, str, bool, type(None)), where)

    def test_imports(self):
        for where, node in self.nodes(ast.ImportFrom):
            self.assertEqual(node.level, 0, where)
            self.assertTrue(node.module.startswith("bitbus."), where)
            self.assertNotIn("*", [alias.name for alias in node.names], where)

    def test_names(self):
        for where, node in self.nodes(ast.Name):
            self.assertRegex(node.id, "^[A-Za-z]", where)
            if node.id in dir(builtins):
                self.assertIn(node.id, NAMES, where)
                self.assertIsInstance(node.ctx, ast.Load, where)
        for where, node in self.nodes(ast.arg):
            self.assertNotIn(node.arg, dir(builtins), where)

    def test_methods(self):
        own = {node.name for where, node in self.nodes(ast.FunctionDef)}
        for where, node in self.nodes(ast.Call):
            if isinstance(node.func, ast.Attribute):
                self.assertIn(node.func.attr, METHODS | own, where)

    def test_methods_and_values(self):
        methods = {node.name for where, owner in self.nodes(ast.ClassDef) for node in owner.body
                   if isinstance(node, ast.FunctionDef)}
        stored = [(where, node.attr) for where, node in self.nodes(ast.Attribute) if isinstance(node.ctx, ast.Store)]
        python = set().union(*(dir(kind) for kind in (str, int, list, dict, set, bytes, tuple)))
        for where, name in stored:
            self.assertNotIn(name, methods, where)
            self.assertNotIn(name, python, where)
        for name in methods - {"__init__"}:
            self.assertNotIn(name, python)

    def test_each_name_once(self):
        for name, tree in self.trees.items():
            imports = [alias.name for node in tree.body if isinstance(node, ast.ImportFrom) for alias in node.names]
            defs = [node for node in tree.body if isinstance(node, (ast.FunctionDef, ast.ClassDef))]
            values = [node.targets[0].id for node in tree.body if isinstance(node, ast.Assign)]
            bound = imports + [node.name for node in defs] + values
            self.assertEqual(len(bound), len(set(bound)), name)
            local = {node.id for owner in defs for node in ast.walk(owner)
                     if isinstance(node, ast.Name) and isinstance(node.ctx, ast.Store)}
            local |= {node.arg for node in ast.walk(tree) if isinstance(node, ast.arg)}
            self.assertEqual(local & set(bound), set(), name)

    def test_imports_come_from_where_the_name_is_defined(self):
        for where, node in self.nodes(ast.ImportFrom):
            tree = self.trees[node.module.split(".")[1] + ".py"]
            defined = {found.name for found in tree.body if isinstance(found, (ast.FunctionDef, ast.ClassDef))}
            for alias in node.names:
                self.assertIn(alias.name, defined, where)


if __name__ == "__main__":
    unittest.main()
