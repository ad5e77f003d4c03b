"""The rules of LANGUAGE.md that can be told from the package's files by themselves."""

import ast
import builtins
import pathlib
import re
import unittest

FOLDER = pathlib.Path(__file__).resolve().parent.parent / "evenbook"

OUT = (
    ast.With, ast.Match, ast.Delete, ast.Global, ast.Nonlocal, ast.Assert, ast.Yield, ast.YieldFrom, ast.Await,
    ast.AsyncFunctionDef, ast.AsyncFor, ast.AsyncWith, ast.SetComp, ast.DictComp, ast.GeneratorExp, ast.NamedExpr,
    ast.Starred, ast.Div, ast.Import, ast.AnnAssign,
)
OWN_NAMES = set(
    "len range enumerate zip min max sum abs sorted reversed int str bool list tuple dict set frozenset isinstance ord "
    "repr any all divmod Exception ValueError TypeError KeyError IndexError LookupError ZeroDivisionError "
    "ArithmeticError OverflowError RuntimeError NotImplementedError AttributeError StopIteration".split()
)
METHODS = set(
    "append clear copy count endswith extend find get index insert isalnum isalpha isdigit islower isspace isupper "
    "items join keys ljust lower lstrip partition pop remove replace reverse rfind rjust rpartition rsplit rstrip "
    "setdefault split splitlines startswith strip update upper values zfill bit_length".split()
)
WORDS = (
    r"\b(type|typing|typing_extensions|enum|Enum|IntEnum|StrEnum|Flag|IntFlag|Generic|Protocol|ABC|ABCMeta|namedtuple|"
    r"NamedTuple|TypedDict|TYPE_CHECKING|abstractmethod)\b|dataclass|overload|contextmanager"
)


class Language(unittest.TestCase):
    def setUp(self):
        self.sources = {path: path.read_bytes().decode("ascii") for path in sorted(FOLDER.glob("*.py"))}
        self.trees = {path: ast.parse(source) for path, source in self.sources.items()}
        self.nodes = [(path, node) for path, tree in self.trees.items() for node in ast.walk(tree)]

    def test_files(self):
        self.assertIn(FOLDER / "__init__.py", self.sources)
        self.assertIn(FOLDER / "journal.py", self.sources)
        for path in FOLDER.iterdir():
            self.assertTrue(path.name == "__pycache__" or re.fullmatch(r"[a-z0-9_]+\.py", path.name), path)

    def test_signs_and_words(self):
        for path, source in self.sources.items():
            self.assertRegex(source, r"\A[\n -~]*\Z", path)
            self.assertIsNone(re.search(WORDS, source), path)

    def test_sizes(self):
        for path, source in self.sources.items():
            rows = source.splitlines()
            self.assertLessEqual(len(rows), 399, path)
            self.assertLessEqual(max([len(row) for row in rows]), 120, path)
        for path, node in self.nodes:
            if isinstance(node, ast.FunctionDef):
                self.assertLessEqual(node.end_lineno - node.lineno + 1, 40, (path, node.name))

    def test_imports(self):
        for path, node in self.nodes:
            if isinstance(node, ast.ImportFrom):
                self.assertEqual(node.level, 0, path)
                self.assertRegex(node.module, r"\Aevenbook\.[a-z0-9_]+\Z", path)

    def test_nothing_that_is_out(self):
        for path, node in self.nodes:
            where = (path.name, getattr(node, "lineno", None), ast.dump(node)[:80])
            self.assertNotIsInstance(node, OUT, where)
            if isinstance(node, ast.Constant):
                self.assertNotIsInstance(node.value, (float, complex, bytes), where)
            if isinstance(node, (ast.FunctionDef, ast.ClassDef)):
                self.assertEqual(node.decorator_list, [], where)
            if isinstance(node, (ast.For, ast.While)):
                self.assertEqual(node.orelse, [], where)
            if isinstance(node, ast.Assign):
                self.assertEqual(len(node.targets), 1, where)

    def test_names(self):
        for path, node in self.nodes:
            if isinstance(node, ast.Name):
                self.assertFalse(node.id.startswith("_"), (path, node.id))
                if hasattr(builtins, node.id):
                    self.assertIn(node.id, OWN_NAMES, path)
                    self.assertIsInstance(node.ctx, ast.Load, (path, node.id))
            if isinstance(node, ast.arg):
                self.assertFalse(node.arg.startswith("_") or hasattr(builtins, node.arg), (path, node.arg))

    def test_methods(self):
        own = {node.name for _, node in self.nodes if isinstance(node, ast.FunctionDef)}
        for path, node in self.nodes:
            if isinstance(node, ast.Call) and isinstance(node.func, ast.Attribute):
                self.assertIn(node.func.attr, METHODS | own | {"__init__"}, path)


if __name__ == "__main__":
    unittest.main()
