"""The package's files, held against those rules of the language that can be seen in their form."""

import ast
import builtins
import pathlib
import re
import unittest

import fieldmend

PACKAGE = pathlib.Path(fieldmend.__file__).parent

STATEMENTS = (ast.Assign, ast.AugAssign, ast.If, ast.While, ast.For, ast.Return, ast.Break, ast.Continue, ast.Pass,
              ast.Raise, ast.Try, ast.Expr, ast.FunctionDef, ast.ClassDef, ast.ImportFrom)
OUTSIDE = (ast.Div, ast.Set, ast.SetComp, ast.DictComp, ast.GeneratorExp, ast.NamedExpr, ast.Starred, ast.Yield,
           ast.YieldFrom, ast.Await)
BUILT_IN = """len range enumerate zip min max sum abs sorted reversed int str bool list tuple dict set frozenset isinstance
    ord repr any all divmod Exception ValueError TypeError KeyError IndexError LookupError ZeroDivisionError
    ArithmeticError OverflowError RuntimeError NotImplementedError AttributeError StopIteration""".split()
METHODS = """append clear copy count endswith extend find get index insert isalnum isalpha isdigit islower isspace
    isupper items join keys ljust lower lstrip partition pop remove replace reverse rfind rjust rpartition rsplit
    rstrip setdefault split splitlines startswith strip update upper values zfill bit_length""".split()
WORDS = re.compile(r"\b(type|typing|typing_extensions|enum|Enum|IntEnum|StrEnum|Flag|IntFlag|Generic|Protocol|ABC|"
                   r"ABCMeta|namedtuple|NamedTuple|TypedDict|TYPE_CHECKING|abstractmethod)\b|"
                   r"dataclass|overload|contextmanager")


def faults_of_signs(source):
    for number, line in enumerate(source.split("\n"), start=1):
        if len(line) > 120:
            yield f"L10 line {number}"
        if re.search("[^ -~]", line):
            yield f"L14 line {number}"
        if WORDS.search(line):
            yield f"L17 line {number}"
    if source.count("\n") > 400:
        yield "L10 file"


def bound_names(tree):
    for node in ast.walk(tree):
        if isinstance(node, (ast.FunctionDef, ast.ClassDef)):
            yield node.name
        elif isinstance(node, ast.arg):
            yield node.arg
        elif isinstance(node, ast.alias):
            yield node.asname or node.name
        elif isinstance(node, ast.Name) and isinstance(node.ctx, ast.Store):
            yield node.id


def faults_of_names(tree):
    bound = list(bound_names(tree))
    for name in bound:
        if name in dir(builtins) or name in BUILT_IN:
            yield f"L15 {name}"
        if not re.fullmatch("[A-Za-z][A-Za-z0-9_]*", name) and name != "__init__":
            yield f"L12 {name}"
    for node in ast.walk(tree):
        if isinstance(node, ast.Name) and node.id not in bound and node.id not in BUILT_IN:
            yield f"L8 {node.id} line {node.lineno}"


def own_methods(tree):
    return [node.name for owner in ast.walk(tree) if isinstance(owner, ast.ClassDef)
            for node in owner.body if isinstance(node, ast.FunctionDef)]


def faults_of_form(tree):
    methods = METHODS + own_methods(tree)
    for node in ast.walk(tree):
        if isinstance(node, ast.stmt) and not isinstance(node, STATEMENTS) or isinstance(node, OUTSIDE):
            yield f"L6, L7 line {node.lineno}" if hasattr(node, "lineno") else "L7 /"
        if isinstance(node, ast.Constant) and isinstance(node.value, (float, complex, bytes)):
            yield f"L7 line {node.lineno}"
        if isinstance(node, ast.ImportFrom) and (node.level or not node.module.startswith("fieldmend.")):
            yield f"L2 line {node.lineno}"
        if isinstance(node, ast.FunctionDef) and node.end_lineno - node.lineno + 1 > 40:
            yield f"L10 {node.name}"
        if isinstance(node, (ast.FunctionDef, ast.ClassDef)) and node.decorator_list:
            yield f"L4, L5 {node.name}"
        if isinstance(node, (ast.For, ast.While)) and node.orelse:
            yield f"L6 line {node.lineno}"
        if isinstance(node, ast.Call) and isinstance(node.func, ast.Attribute) and node.func.attr not in methods:
            yield f"L25 line {node.lineno}"


class Language(unittest.TestCase):
    def test_only_plain_files_lie_in_the_package(self):
        for path in PACKAGE.rglob("*"):
            if "__pycache__" not in path.parts:
                self.assertRegex(path.name, r"^(__init__|[a-z][a-z0-9_]*)\.py$")

    def test_every_file_keeps_to_the_rules(self):
        paths = sorted(PACKAGE.glob("*.py"))
        self.assertIn(PACKAGE / "desk.py", paths)
        for path in paths:
            source = path.read_text(encoding="utf-8")
            tree = ast.parse(source)
            found = list(faults_of_signs(source)) + list(faults_of_names(tree)) + list(faults_of_form(tree))
            self.assertEqual(found, [], path.name)

    def test_the_check_sees_what_is_outside(self):
        for source in ("import os\n", "x = 1 / 2\n", "x = 1.5\n", "def f():\n    yield 1\n", "def f(a):\n    del a\n",
                       "def f(a):\n    a.sort()\n", "def f():\n    print(1)\n", "min = 3\n", "hash = 3\n", "from . import x\n",
                       "x = {1: 2 for y in (3, 4)}\n", "def f(_a):\n    return 1\n"):
            tree = ast.parse(source)
            self.assertNotEqual(list(faults_of_names(tree)) + list(faults_of_form(tree)), [], source)
        for source in ("# the type\n", "# " + "a" * 119 + "\n", "\tx = 1\n", "# \u00e9\n", "\n" * 401):
            self.assertNotEqual(list(faults_of_signs(source)), [], source)


if __name__ == "__main__":
    unittest.main()
