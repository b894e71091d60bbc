"""The package's files keep to the plainest rules of the language: sizes, signs, imports and words."""

import ast
import builtins
import pathlib
import re
import unittest

PACKAGE = pathlib.Path(__file__).resolve().parent.parent / "sessionsigns"
FILES = sorted(path for path in PACKAGE.rglob("*") if "__pycache__" not in path.parts)
WORDS_OUT = re.compile(
    r"\b(type|typing|typing_extensions|enum|Enum|IntEnum|StrEnum|Flag|IntFlag|Generic|Protocol|ABC|ABCMeta|namedtuple"
    r"|NamedTuple|TypedDict|TYPE_CHECKING|abstractmethod)\b|dataclass|overload|contextmanager"
)
OWN_NAMES_OF_PYTHON = (
    "len", "range", "enumerate", "zip", "min", "max", "sum", "abs", "sorted", "reversed", "int", "str", "bool", "list",
    "tuple", "dict", "set", "frozenset", "isinstance", "ord", "repr", "any", "all", "divmod", "Exception", "ValueError",
    "KeyError", "IndexError", "LookupError", "ZeroDivisionError", "StopIteration",
)
METHODS = (
    "append", "clear", "copy", "count", "endswith", "extend", "find", "get", "index", "insert", "items", "join", "keys",
    "pop", "remove", "replace", "reverse", "setdefault", "split", "startswith", "strip", "update", "values",
    "bit_length", "__init__",
)
STATEMENTS = (
    ast.FunctionDef, ast.ClassDef, ast.Assign, ast.AugAssign, ast.If, ast.While, ast.For, ast.Return, ast.Break,
    ast.Continue, ast.Pass, ast.Raise, ast.Try, ast.Expr, ast.ImportFrom,
)


def nodes(path):
    return list(ast.walk(ast.parse(path.read_text())))


class Form(unittest.TestCase):
    def test_there_are_files_and_all_are_python(self):
        self.assertIn(PACKAGE / "__init__.py", FILES)
        for path in FILES:
            self.assertRegex(path.name, r"^[a-z_][a-z0-9_]*\.py$")

    def test_sizes_and_signs(self):
        for path in FILES:
            with self.subTest(file=path.name):
                lines = path.read_text().split("\n")
                self.assertLessEqual(len(lines), 399)
                for line in lines:
                    self.assertRegex(line, r"^[ -~]{0,120}$")

    def test_functions_have_at_most_40_lines(self):
        for path in FILES:
            with self.subTest(file=path.name):
                for node in nodes(path):
                    if isinstance(node, ast.FunctionDef):
                        self.assertLessEqual(node.end_lineno - node.lineno + 1, 40, node.name)

    def test_statements(self):
        for path in FILES:
            with self.subTest(file=path.name):
                for node in nodes(path):
                    if isinstance(node, ast.stmt):
                        self.assertIsInstance(node, STATEMENTS)

    def test_imports_are_the_packages_own_names(self):
        for path in FILES:
            with self.subTest(file=path.name):
                for node in nodes(path):
                    if isinstance(node, ast.ImportFrom):
                        drawn = PACKAGE / (node.module.removeprefix("sessionsigns.") + ".py")
                        defined = [one.name for one in ast.parse(drawn.read_text()).body if hasattr(one, "name")]
                        for alias in node.names:
                            self.assertIn(alias.name, defined)

    def test_no_two_files_draw_from_one_another(self):
        drawn = {}
        for path in FILES:
            drawn[path.stem] = [node.module.removeprefix("sessionsigns.") for node in nodes(path)
                                if isinstance(node, ast.ImportFrom)]
        settled = set()
        while len(settled) < len(drawn):
            free = {name for name in drawn if name not in settled and settled.issuperset(drawn[name])}
            self.assertTrue(free, sorted(set(drawn) - settled))
            settled |= free

    def test_names_that_are_bound(self):
        for path in FILES:
            found = nodes(path)
            top = {one.name for one in found if isinstance(one, (ast.FunctionDef, ast.ClassDef))}
            drawn = {alias.name for one in found if isinstance(one, ast.ImportFrom) for alias in one.names}
            classes = {one.name for one in found if isinstance(one, ast.ClassDef)}
            bound = {one.arg for one in found if isinstance(one, ast.arg)}
            bound |= {one.id for one in found if isinstance(one, ast.Name) and isinstance(one.ctx, ast.Store)}
            with self.subTest(file=path.name):
                self.assertEqual(bound & (drawn | classes), set())
                self.assertEqual((bound | top - {"__init__"}) & set(dir(builtins)), set())
                for name in bound | top - {"__init__"}:
                    self.assertRegex(name, r"^[A-Za-z][A-Za-z0-9_]*$")

    def test_names_of_python_that_are_called(self):
        for path in FILES:
            with self.subTest(file=path.name):
                for node in nodes(path):
                    if isinstance(node, ast.Name) and node.id in dir(builtins):
                        self.assertIn(node.id, OWN_NAMES_OF_PYTHON)
                    if isinstance(node, ast.Call) and isinstance(node.func, ast.Attribute):
                        self.assertIn(node.func.attr, METHODS)

    def test_no_exponents(self):
        for path in FILES:
            with self.subTest(file=path.name):
                for node in nodes(path):
                    self.assertNotIsInstance(node, ast.Pow)

    def test_words_that_stand_nowhere(self):
        for path in FILES:
            with self.subTest(file=path.name):
                self.assertIsNone(WORDS_OUT.search(path.read_text()))

    def test_no_float_and_no_division_by_a_slash(self):
        for path in FILES:
            with self.subTest(file=path.name):
                for node in nodes(path):
                    self.assertNotIsInstance(node, ast.Div)
                    if isinstance(node, ast.Constant):
                        self.assertNotIsInstance(node.value, (float, complex, bytes))


if __name__ == "__main__":
    unittest.main()
