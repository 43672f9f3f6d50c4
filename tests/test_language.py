"""The rules of LANGUAGE.md that are plain to see in the package's files."""

import ast
import pathlib
import re
import unittest

PACKAGE = pathlib.Path(__file__).resolve().parent.parent / "maysee"
NODES_LEFT_OUT = (
    ast.With, ast.Match, ast.Delete, ast.Global, ast.Nonlocal, ast.Assert, ast.Yield, ast.YieldFrom, ast.Await,
    ast.AsyncFunctionDef, ast.AsyncFor, ast.AsyncWith, ast.SetComp, ast.DictComp, ast.GeneratorExp, ast.NamedExpr,
    ast.Starred, ast.Div, ast.Import,
)
WORDS_LEFT_OUT = re.compile(
    r"\b(type|typing|typing_extensions|enum|Enum|IntEnum|StrEnum|Flag|IntFlag|Generic|Protocol|ABC|ABCMeta"
    r"|namedtuple|NamedTuple|TypedDict|TYPE_CHECKING|abstractmethod)\b|dataclass|overload|contextmanager")
NAMES_LEFT_OUT = ("open", "input", "id", "next", "map", "hash", "filter", "print", "iter", "round", "pow", "chr", "super")


def files():
    return [path for path in sorted(PACKAGE.rglob("*")) if "__pycache__" not in path.parts]


def walked():
    for path in files():
        for node in ast.walk(ast.parse(path.read_text(encoding="utf-8"))):
            yield path, node


class Language(unittest.TestCase):
    def test_files(self):
        self.assertIn(PACKAGE / "__init__.py", files())
        for path in files():
            self.assertRegex(path.name, r"\A[a-z0-9_]+\.py\Z")

    def test_signs_and_sizes(self):
        for path in files():
            text = path.read_text(encoding="utf-8")
            self.assertRegex(text, r"\A[ -~\n]*\Z", path)
            rows = text.split("\n")
            self.assertLessEqual(len(rows), 400, path)
            self.assertLessEqual(max(len(row) for row in rows), 120, path)

    def test_functions_have_at_most_40_lines(self):
        for path, node in walked():
            if isinstance(node, ast.FunctionDef):
                self.assertLessEqual(node.end_lineno - node.lineno + 1, 40, (path, node.name))
                self.assertEqual(node.decorator_list, [], (path, node.name))

    def test_statements_and_expressions(self):
        for path, node in walked():
            self.assertNotIsInstance(node, NODES_LEFT_OUT, (path, getattr(node, "lineno", None)))

    def test_imports_are_the_packages_own(self):
        for path, node in walked():
            if isinstance(node, ast.ImportFrom):
                self.assertRegex(node.module or "", r"\A(maysee\.|__future__\Z)", (path, node.lineno))
                self.assertEqual(node.level, 0, (path, node.lineno))

    def test_names(self):
        for path, node in walked():
            for field in ("id", "arg", "name", "attr"):
                name = getattr(node, field, None)
                if isinstance(name, str) and name != "__init__":
                    self.assertRegex(name, r"\A[A-Za-z][A-Za-z0-9_]*\Z", path)
                    self.assertNotIn(name, NAMES_LEFT_OUT, path)

    def test_words(self):
        for path in files():
            self.assertIsNone(WORDS_LEFT_OUT.search(path.read_text(encoding="utf-8")), path)


if __name__ == "__main__":
    unittest.main()
