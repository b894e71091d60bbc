"""The package's files keep to the plainest rules of the language: sizes, signs, imports and words."""

import ast
import pathlib
import re
import unittest

PACKAGE = pathlib.Path(__file__).resolve().parent.parent / "sessionsigns"
FILES = sorted(path for path in PACKAGE.rglob("*") if "__pycache__" not in path.parts)
WORDS_OUT = re.compile(
    r"\b(type|typing|typing_extensions|enum|Enum|IntEnum|StrEnum|Flag|IntFlag|Generic|Protocol|ABC|ABCMeta|namedtuple"
    r"|NamedTuple|TypedDict|TYPE_CHECKING|abstractmethod)\b|dataclass|overload|contextmanager"
)
STATEMENTS = (
    ast.FunctionDef, ast.ClassDef, ast.Assign, ast.AugAssign, ast.If, ast.While, ast.For, ast.Return, ast.Break,
    ast.Continue, ast.Pass, ast.Raise, ast.Try, ast.Expr, ast.ImportFrom,
)


def nodes(path):
    return list(ast.walk(ast.parse(path.read_text())))


class Form(unittest.TestCase):
    def test_there_are_files_and_all_are_python(self):
        self.assertIn(PACKAGE / "__init__.py", FILES)
        for path in FILES:
            self.assertRegex(path.name, r"^[a-z_][a-z0-9_]*\.py$")

    def test_sizes_and_signs(self):
        for path in FILES:
            with self.subTest(file=path.name):
                lines = path.read_text().split("\n")
                self.assertLessEqual(len(lines), 399)
                for line in lines:
                    self.assertRegex(line, r"^[ -~]{0,120}$")

    def test_functions_have_at_most_40_lines(self):
        for path in FILES:
            with self.subTest(file=path.name):
                for node in nodes(path):
                    if isinstance(node, ast.FunctionDef):
                        self.assertLessEqual(node.end_lineno - node.lineno + 1, 40, node.name)

    def test_statements(self):
        for path in FILES:
            with self.subTest(file=path.name):
                for node in nodes(path):
                    if isinstance(node, ast.stmt):
                        self.assertIsInstance(node, STATEMENTS)

    def test_imports_are_the_packages_own_names(self):
        for path in FILES:
            with self.subTest(file=path.name):
                for node in nodes(path):
                    if isinstance(node, ast.ImportFrom):
                        drawn = PACKAGE / (node.module.removeprefix("sessionsigns.") + ".py")
                        defined = [one.name for one in ast.parse(drawn.read_text()).body if hasattr(one, "name")]
                        for alias in node.names:
                            self.assertIn(alias.name, defined)

    def test_words_that_stand_nowhere(self):
        for path in FILES:
            with self.subTest(file=path.name):
                self.assertIsNone(WORDS_OUT.search(path.read_text()))

    def test_no_float_and_no_division_by_a_slash(self):
        for path in FILES:
            with self.subTest(file=path.name):
                for node in nodes(path):
                    self.assertNotIsInstance(node, ast.Div)
                    if isinstance(node, ast.Constant):
                        self.assertNotIsInstance(node.value, (float, complex, bytes))


if __name__ == "__main__":
    unittest.main()
