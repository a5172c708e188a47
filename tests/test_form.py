"""The form of the package's files, as far as it can be seen without running them."""

import ast
import pathlib
import re
import unittest

PACKAGE = pathlib.Path(__file__).resolve().parent.parent / "looseleaves"
FILES = sorted(path for path in PACKAGE.rglob("*") if "__pycache__" not in path.parts)
WORDS_LEFT_OUT = (
    r"\b(type|typing|typing_extensions|enum|Enum|IntEnum|StrEnum|Flag|IntFlag|Generic|Protocol|ABC|ABCMeta|namedtuple"
    r"|NamedTuple|TypedDict|TYPE_CHECKING|abstractmethod)\b|dataclass|overload|contextmanager"
)
STATEMENTS_LEFT_OUT = (
    ast.With, ast.Match, ast.Delete, ast.Global, ast.Nonlocal, ast.Assert, ast.Yield, ast.YieldFrom, ast.AsyncFunctionDef,
    ast.Import, ast.Starred, ast.NamedExpr, ast.Set, ast.SetComp, ast.DictComp, ast.GeneratorExp, ast.Div, ast.AnnAssign,
)


class Form(unittest.TestCase):
    def test_nothing_but_files_of_the_program(self):
        names = [path.name for path in FILES]
        self.assertIn("__init__.py", names)
        self.assertIn("desk.py", names)
        for name in names:
            self.assertRegex(name, r"^[a-z0-9_]+\.py$")

    def test_signs_and_sizes(self):
        for path in FILES:
            rows = path.read_bytes().decode("ascii").split("\n")
            self.assertLessEqual(len(rows), 400, path)
            for number, row in enumerate(rows, start=1):
                with self.subTest(file=path.name, row=number):
                    self.assertRegex(row, r"^[ -~]{0,120}$")
                    self.assertIsNone(re.search(WORDS_LEFT_OUT, row))

    def test_statements(self):
        for path in FILES:
            for node in ast.walk(ast.parse(path.read_text())):
                with self.subTest(file=path.name, row=getattr(node, "lineno", 0)):
                    self.assertNotIsInstance(node, STATEMENTS_LEFT_OUT)
                    if isinstance(node, ast.ImportFrom):
                        self.assertTrue(node.level == 0 and node.module.startswith("looseleaves."))
                    if isinstance(node, ast.FunctionDef):
                        self.assertLessEqual(node.end_lineno - node.lineno + 1, 40)
                        self.assertEqual(node.decorator_list, [])


if __name__ == "__main__":
    unittest.main()
