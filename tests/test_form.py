"""Tests of the package's own files: that they keep to the small part of Python which the project allows itself,
as far as that can be seen plainly, and that a call reads and imports nothing."""

import ast
import builtins
import re
import subprocess
import sys
import unittest
from pathlib import Path

ROOT = Path(__file__).resolve().parent.parent
PACKAGE = ROOT / "enclosing"

ALLOWED_BUILTINS = set("""len range enumerate zip min max sum abs sorted reversed int str bool list tuple dict set
    frozenset isinstance ord repr any all divmod Exception ValueError TypeError KeyError IndexError LookupError
    ZeroDivisionError ArithmeticError OverflowError RuntimeError NotImplementedError StopIteration""".split())
ALLOWED_METHODS = set("""append clear copy count endswith extend find get index insert isalnum isalpha isdigit
    islower isspace isupper items join keys ljust lower lstrip partition pop remove replace reverse rfind rjust
    rpartition rsplit rstrip setdefault split splitlines startswith strip update upper values zfill
    bit_length""".split())
FORBIDDEN_NODES = (
    ast.With, ast.Match, ast.Delete, ast.Global, ast.Nonlocal, ast.Assert, ast.Yield, ast.YieldFrom, ast.Await,
    ast.AsyncFor, ast.AsyncFunctionDef, ast.AsyncWith, ast.Div, ast.SetComp, ast.DictComp, ast.GeneratorExp,
    ast.NamedExpr, ast.Starred, ast.Import, ast.ImportFrom, ast.AnnAssign, ast.MatMult,
)
FORBIDDEN_WORDS = re.compile(
    r"\b(type|typing|typing_extensions|enum|Enum|IntEnum|StrEnum|Flag|IntFlag|Generic|Protocol|ABC|ABCMeta"
    r"|namedtuple|NamedTuple|TypedDict|TYPE_CHECKING|abstractmethod)\b|dataclass|overload|contextmanager")

WATCHED_CALLS = """
import sys
import enclosing.ends
events = []
watching = [False]
def watch(event, details):
    if watching[0]:
        events.append(event)
sys.addaudithook(watch)
before = set(sys.modules)
watching[0] = True
for op in range(-1, 8):
    enclosing.ends.arith(op, 1, [0, 4607182418800017408], [4607182418800017408, 4611686018427387904])
for n in (0, 1, 65537):
    ends = [0, 4607182418800017408] if n == 1 else []
    enclosing.ends.sum_of(n, ends)
    enclosing.ends.dot(n, ends, ends)
    enclosing.ends.check(n, ends)
for n in (0, 1, 1025):
    enclosing.ends.evaluate(n, [4607182418800017408] * (n + 1) if n < 2 else [], [0, 4607182418800017408])
watching[0] = False
print(events, sorted(set(sys.modules) - before))
"""


def files():
    return sorted(PACKAGE.glob("**/*.py"))


def bound_names(tree):
    for node in ast.walk(tree):
        if isinstance(node, (ast.FunctionDef, ast.ClassDef)):
            yield node.name
        elif isinstance(node, ast.arg):
            yield node.arg
        elif isinstance(node, ast.Name) and isinstance(node.ctx, ast.Store):
            yield node.id


class Form(unittest.TestCase):
    def each_tree(self):
        for path in files():
            with self.subTest(file=path.name):
                yield ast.parse(path.read_text(encoding="utf-8"))

    def test_the_package_holds_plain_files_alone(self):
        names = [path.name for path in PACKAGE.iterdir() if path.name != "__pycache__"]
        self.assertIn("__init__.py", names)
        self.assertIn("ends.py", names)
        for name in names:
            self.assertRegex(name, r"^([a-z][a-z0-9_]*|__init__|__main__)\.py$")

    def test_signs_and_sizes(self):
        for path in files():
            text = path.read_text(encoding="utf-8")
            self.assertRegex(text, r"\A[ -~\n]*\Z")
            self.assertIsNone(FORBIDDEN_WORDS.search(text), path.name)
            rows = text.splitlines()
            self.assertLessEqual(len(rows), 400)
            self.assertLessEqual(max(len(row) for row in rows), 120)

    def test_functions_are_small_and_plain(self):
        for tree in self.each_tree():
            for node in ast.walk(tree):
                if isinstance(node, ast.FunctionDef):
                    self.assertLessEqual(node.end_lineno - node.lineno + 1, 40, node.name)
                    self.assertEqual(node.decorator_list, [])
                    self.assertIsNone(node.args.vararg or node.args.kwarg)
                    self.assertEqual(node.args.kwonlyargs, [])

    def test_statements_and_expressions(self):
        for tree in self.each_tree():
            for node in ast.walk(tree):
                self.assertNotIsInstance(node, FORBIDDEN_NODES)
                if isinstance(node, ast.Constant):
                    self.assertNotIsInstance(node.value, (float, complex, bytes))
                if isinstance(node, ast.Assign):
                    self.assertEqual(len(node.targets), 1)
                    self.assertNotIsInstance(node.targets[0], (ast.Tuple, ast.List))
                if isinstance(node, (ast.For, ast.While)):
                    self.assertEqual(node.orelse, [])
                if isinstance(node, ast.Attribute):
                    self.assertIn(node.attr, ALLOWED_METHODS)

    def test_names(self):
        for tree in self.each_tree():
            bound = list(bound_names(tree))
            for name in bound:
                self.assertRegex(name, r"^[A-Za-z][A-Za-z0-9_]*$")
                self.assertFalse(hasattr(builtins, name), name)
            for node in ast.walk(tree):
                if isinstance(node, ast.Name) and node.id not in bound:
                    self.assertIn(node.id, ALLOWED_BUILTINS)

    def test_the_top_of_a_file_gives_each_name_one_plain_value(self):
        for tree in self.each_tree():
            names = []
            for node in tree.body:
                self.assertIsInstance(node, (ast.Expr, ast.Assign, ast.FunctionDef))
                if isinstance(node, ast.Assign):
                    ast.literal_eval(node.value)
                    names.append(node.targets[0].id)
                elif isinstance(node, ast.FunctionDef):
                    names.append(node.name)
            self.assertEqual(len(names), len(set(names)))


class Watched(unittest.TestCase):
    def test_a_call_reads_and_imports_nothing(self):
        run = subprocess.run([sys.executable, "-B", "-c", WATCHED_CALLS], cwd=ROOT, capture_output=True, text=True)
        self.assertEqual((run.stdout, run.stderr), ("[] []\n", ""))


if __name__ == "__main__":
    unittest.main()
