"""The rules of LANGUAGE.md that are plain to see in the package's files."""

import ast
import builtins
import pathlib
import re
import unittest

PACKAGE = pathlib.Path(__file__).resolve().parent.parent / "maysee"
NODES_LEFT_OUT = (
    ast.With, ast.Match, ast.Delete, ast.Global, ast.Nonlocal, ast.Assert, ast.Yield, ast.YieldFrom, ast.Await,
    ast.AsyncFunctionDef, ast.AsyncFor, ast.AsyncWith, ast.SetComp, ast.DictComp, ast.GeneratorExp, ast.NamedExpr,
    ast.Starred, ast.Div, ast.Import,
)
WORDS_LEFT_OUT = re.compile(
    r"\b(type|typing|typing_extensions|enum|Enum|IntEnum|StrEnum|Flag|IntFlag|Generic|Protocol|ABC|ABCMeta"
    r"|namedtuple|NamedTuple|TypedDict|TYPE_CHECKING|abstractmethod)\b|dataclass|overload|contextmanager")
NAMES_LEFT_OUT = (
    "open", "input", "id", "next", "map", "hash", "filter", "print", "iter", "round", "pow", "chr", "super")

BUILTINS_LEFT_IN = (
    "len range enumerate zip min max sum abs sorted reversed int str bool list tuple dict set frozenset isinstance ord "
    "repr any all divmod Exception ValueError TypeError KeyError IndexError LookupError ZeroDivisionError "
    "ArithmeticError OverflowError RuntimeError NotImplementedError AttributeError StopIteration").split()
METHODS_LEFT_IN = (
    "append clear copy count endswith extend find get index insert isalnum isalpha isdigit islower isspace isupper "
    "items join keys ljust lower lstrip partition pop remove replace reverse rfind rjust rpartition rsplit rstrip "
    "setdefault split splitlines startswith strip update upper values zfill bit_length").split()
NAMES_OF_VALUES = {name for kind in (str, int, list, tuple, dict, set, bytes) for name in dir(kind)}


def files():
    return [path for path in sorted(PACKAGE.rglob("*")) if "__pycache__" not in path.parts]


def walked():
    for path in files():
        for node in ast.walk(ast.parse(path.read_text(encoding="utf-8"))):
            yield path, node


class Language(unittest.TestCase):
    def test_files(self):
        self.assertIn(PACKAGE / "__init__.py", files())
        for path in files():
            self.assertRegex(path.name, r"\A[a-z0-9_]+\.py\Z")

    def test_signs_and_sizes(self):
        for path in files():
            text = path.read_text(encoding="utf-8")
            self.assertRegex(text, r"\A[ -~\n]*\Z", path)
            rows = text.split("\n")
            self.assertLessEqual(len(rows), 400, path)
            self.assertLessEqual(max(len(row) for row in rows), 120, path)

    def test_functions_have_at_most_40_lines(self):
        for path, node in walked():
            if isinstance(node, ast.FunctionDef):
                self.assertLessEqual(node.end_lineno - node.lineno + 1, 40, (path, node.name))
                self.assertEqual(node.decorator_list, [], (path, node.name))

    def test_statements_and_expressions(self):
        for path, node in walked():
            self.assertNotIsInstance(node, NODES_LEFT_OUT, (path, getattr(node, "lineno", None)))

    def test_imports_are_the_packages_own(self):
        for path, node in walked():
            if isinstance(node, ast.ImportFrom):
                self.assertRegex(node.module or "", r"\A(maysee\.|__future__\Z)", (path, node.lineno))
                self.assertEqual(node.level, 0, (path, node.lineno))

    def test_names(self):
        for path, node in walked():
            for field in ("id", "arg", "name", "attr"):
                name = getattr(node, field, None)
                if isinstance(name, str) and name != "__init__":
                    self.assertRegex(name, r"\A[A-Za-z][A-Za-z0-9_]*\Z", path)
                    self.assertNotIn(name, NAMES_LEFT_OUT, path)

    def test_pythons_own_names(self):
        for path, node in walked():
            if isinstance(node, ast.Name) and hasattr(builtins, node.id):
                self.assertIn(node.id, BUILTINS_LEFT_IN, (path, node.lineno))
                self.assertIsInstance(node.ctx, ast.Load, (path, node.lineno))
            if isinstance(node, ast.arg):
                self.assertFalse(hasattr(builtins, node.arg), (path, node.lineno))

    def test_methods_and_values(self):
        methods, values, called = set(), set(), set()
        for path, node in walked():
            if isinstance(node, ast.ClassDef):
                methods.update(part.name for part in node.body if isinstance(part, ast.FunctionDef))
            if isinstance(node, ast.Attribute) and isinstance(node.ctx, ast.Store):
                values.add(node.attr)
            if isinstance(node, ast.Call) and isinstance(node.func, ast.Attribute):
                called.add(node.func.attr)
        self.assertEqual(methods & values, set())
        self.assertEqual((methods - {"__init__", "add", "discard"} | values) & NAMES_OF_VALUES, set())
        self.assertEqual(called - methods - set(METHODS_LEFT_IN), set())

    def test_is_stands_beside_none_true_and_false(self):
        for path, node in walked():
            if isinstance(node, ast.Compare) and any(isinstance(op, (ast.Is, ast.IsNot)) for op in node.ops):
                plain = [side for side in (node.left, *node.comparators) if isinstance(side, ast.Constant)]
                self.assertIn(True, [side.value in (None, True, False) for side in plain], (path, node.lineno))

    def test_one_target_and_no_annotation(self):
        for path, node in walked():
            self.assertNotIsInstance(node, ast.AnnAssign, path)
            self.assertIsNone(getattr(node, "annotation", None), path)
            self.assertIsNone(getattr(node, "returns", None), path)
            if isinstance(node, ast.Assign):
                self.assertEqual(len(node.targets), 1, (path, node.lineno))
                self.assertNotIsInstance(node.targets[0], (ast.Tuple, ast.List), (path, node.lineno))

    def test_the_top_of_a_file_binds_each_name_once_to_a_plain_value(self):
        for path in files():
            names = []
            for node in ast.parse(path.read_text(encoding="utf-8")).body:
                self.assertIsInstance(
                    node, (ast.Expr, ast.ImportFrom, ast.FunctionDef, ast.ClassDef, ast.Assign), path)
                if isinstance(node, ast.Assign):
                    ast.literal_eval(node.value)
                    names.append(node.targets[0].id)
                elif isinstance(node, (ast.FunctionDef, ast.ClassDef)):
                    names.append(node.name)
            self.assertEqual(len(names), len(set(names)), path)

    def test_words(self):
        for path in files():
            self.assertIsNone(WORDS_LEFT_OUT.search(path.read_text(encoding="utf-8")), path)


if __name__ == "__main__":
    unittest.main()
