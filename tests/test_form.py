"""The form of the package's files: what of ../shared/LANGUAGE.md can be seen without reading closely."""

import ast
import builtins
import pathlib
import re
import unittest

PACKAGE = pathlib.Path(__file__).resolve().parent.parent / "tonebench"

ALLOWED_BUILTINS = set(
    "len range enumerate zip min max sum abs sorted reversed int str bool list tuple dict set frozenset isinstance "
    "ord repr any all divmod Exception ValueError TypeError KeyError IndexError LookupError ZeroDivisionError "
    "ArithmeticError OverflowError RuntimeError NotImplementedError AttributeError StopIteration".split()
)
FORBIDDEN_NODES = (
    ast.With, ast.Match, ast.Delete, ast.Global, ast.Nonlocal, ast.Assert, ast.Yield, ast.YieldFrom, ast.Await,
    ast.AsyncFunctionDef, ast.AsyncFor, ast.AsyncWith, ast.SetComp, ast.DictComp, ast.GeneratorExp, ast.NamedExpr,
    ast.Starred, ast.Div, ast.MatMult, ast.Import, ast.AnnAssign, ast.TryStar,
)
FORBIDDEN_WORDS = re.compile(
    r"\b(type|typing|typing_extensions|enum|Enum|IntEnum|StrEnum|Flag|IntFlag|Generic|Protocol|ABC|ABCMeta|"
    r"namedtuple|NamedTuple|TypedDict|TYPE_CHECKING|abstractmethod|register|mro|elements|open|input)\b"
    r"|dataclass|overload|contextmanager"
)
METHODS = set(
    "append clear copy count endswith extend find get index insert isalnum isalpha isdigit islower isspace isupper "
    "items join keys ljust lower lstrip partition pop remove replace reverse rfind rjust rpartition rsplit rstrip "
    "setdefault split splitlines startswith strip update upper values zfill bit_length".split()
)


# What texts, numbers, lists, dicts, sets and bytes have; no class of the package calls something its own like these.
TAKEN = set(dir(str) + dir(int) + dir(list) + dir(dict) + dir(set) + dir(bytes) + dir(range))


def files():
    return sorted(path for path in PACKAGE.rglob("*") if "__pycache__" not in path.parts)


def nodes(kind):
    for path in files():
        for node in ast.walk(ast.parse(path.read_text("utf-8"))):
            if isinstance(node, kind):
                yield path.name, node


class Form(unittest.TestCase):
    def test_files(self):
        self.assertIn(PACKAGE / "__init__.py", files())
        for path in files():
            self.assertRegex(path.name, r"^([a-z][a-z0-9_]*|__init__)\.py$")
            text = path.read_bytes().decode("ascii")
            self.assertIsNone(re.search(r"[^\n -~]", text), path.name)
            self.assertIsNone(FORBIDDEN_WORDS.search(text), path.name)
            self.assertLessEqual(len(text.splitlines()), 400, path.name)
            for line in text.splitlines():
                self.assertLessEqual(len(line), 120, (path.name, line))

    def test_functions(self):
        for name, node in nodes(ast.FunctionDef):
            self.assertLessEqual(node.end_lineno - node.lineno + 1, 40, (name, node.name))
            self.assertEqual([], node.decorator_list, (name, node.name))
            arguments = node.args
            self.assertFalse(arguments.vararg or arguments.kwarg or arguments.kwonlyargs, (name, node.name))
            for argument in arguments.args:
                self.assertFalse(hasattr(builtins, argument.arg), (name, node.name, argument.arg))

    def test_statements_and_expressions(self):
        for name, node in nodes(FORBIDDEN_NODES):
            self.fail((name, getattr(node, "lineno", 0), node))
        for name, node in nodes(ast.Assign):
            self.assertEqual(1, len(node.targets), (name, node.lineno))
        for name, node in nodes(ast.Constant):
            self.assertIn(type(node.value), (int, str, bool, type(None)), (name, node.lineno))
        for name, node in nodes((ast.For, ast.While)):
            self.assertEqual([], node.orelse, (name, node.lineno))
        for name, node in nodes(ast.BinOp):
            if isinstance(node.op, ast.Pow):
                self.assertIsInstance(node.right, ast.Constant, (name, node.lineno))

    def test_names(self):
        for name, node in nodes(ast.Name):
            self.assertRegex(node.id, r"^[A-Za-z][A-Za-z0-9_]*$", (name, node.lineno))
            if hasattr(builtins, node.id):
                self.assertIn(node.id, ALLOWED_BUILTINS, (name, node.lineno))
                self.assertIsInstance(node.ctx, ast.Load, (name, node.lineno))
        own = {node.name for _, kind in nodes(ast.ClassDef) for node in kind.body if isinstance(node, ast.FunctionDef)}
        own |= {node.attr for _, node in nodes(ast.Attribute) if isinstance(node.ctx, ast.Store)}
        self.assertEqual({"__init__"}, own & TAKEN)
        for name, node in nodes(ast.Attribute):
            self.assertIn(node.attr, METHODS | own, (name, node.lineno))

    def test_classes(self):
        methods, values = set(), set()
        for name, node in nodes(ast.ClassDef):
            self.assertEqual((0, []), (node.col_offset, node.decorator_list), (name, node.name))
            for part in node.body:
                docstring = isinstance(part, ast.Expr) and isinstance(part.value, ast.Constant)
                self.assertTrue(docstring or isinstance(part, ast.FunctionDef), (name, part.lineno))
            defs = [part.name for part in node.body if isinstance(part, ast.FunctionDef)]
            self.assertEqual(len(set(defs)), len(defs), (name, node.name))
            methods |= set(defs)
            stored = [part for part in ast.walk(node) if isinstance(getattr(part, "ctx", None), ast.Store)]
            values |= {part.attr for part in stored if isinstance(part, ast.Attribute)}
        self.assertEqual(set(), methods & values)

    def test_imports(self):
        for name, node in nodes(ast.ImportFrom):
            self.assertEqual(0, node.level, (name, node.lineno))
            self.assertRegex(node.module, r"^tonebench\.[a-z]+$", (name, node.lineno))
            self.assertEqual(0, node.col_offset, (name, node.lineno))

    def test_top_of_each_file(self):
        for path in files():
            for node in ast.parse(path.read_text("utf-8")).body:
                plain = isinstance(node, (ast.FunctionDef, ast.ClassDef, ast.ImportFrom, ast.Assign))
                docstring = isinstance(node, ast.Expr) and isinstance(node.value, ast.Constant)
                self.assertTrue(plain or docstring, (path.name, node.lineno))


if __name__ == "__main__":
    unittest.main()
