"""Those of the language's rules that can be seen in the package's files without running them."""

import ast
import builtins
import pathlib
import re
import unittest

PACKAGE = pathlib.Path(__file__).resolve().parent.parent / "toolchoice"
FILES = sorted(path for path in PACKAGE.rglob("*") if path.is_file() and path.suffix != ".pyc")
BUILT_IN = set(
    "len range enumerate zip min max sum abs sorted reversed int str bool list tuple dict set frozenset isinstance "
    "ord repr any all divmod Exception ValueError KeyError IndexError LookupError ZeroDivisionError".split()
)
METHODS = set(
    "append clear copy count endswith extend find get index insert items join keys pop remove replace reverse "
    "setdefault split startswith strip update values bit_length".split()
)
WORDS = (
    r"\b(type|typing|typing_extensions|enum|Enum|IntEnum|StrEnum|Flag|IntFlag|Generic|Protocol|ABC|ABCMeta"
    r"|namedtuple|NamedTuple|TypedDict|TYPE_CHECKING|abstractmethod)\b|dataclass|overload|contextmanager"
)
OUT = (
    ast.With, ast.Match, ast.Delete, ast.Global, ast.Nonlocal, ast.Assert, ast.Yield, ast.YieldFrom, ast.Await,
    ast.AsyncFunctionDef, ast.AsyncFor, ast.AsyncWith, ast.SetComp, ast.DictComp, ast.GeneratorExp, ast.NamedExpr,
    ast.Starred, ast.Div, ast.Import, ast.AnnAssign, ast.Set,
)


def bound_names(tree):
    """Every name that a file gives a meaning."""
    for node in ast.walk(tree):
        if isinstance(node, ast.Name) and not isinstance(node.ctx, ast.Load):
            yield node.id
        elif isinstance(node, ast.arg):
            yield node.arg
        elif isinstance(node, (ast.FunctionDef, ast.ClassDef)):
            yield node.name
        elif isinstance(node, ast.alias):
            yield node.asname or node.name


class LanguageTest(unittest.TestCase):
    def each(self):
        self.assertTrue(FILES)
        for path in FILES:
            with self.subTest(path.name):
                yield path, path.read_bytes().decode("utf-8")

    def test_files_and_signs(self):
        for path, text in self.each():
            self.assertRegex(path.name, r"^[a-z0-9_]+\.py$")
            self.assertIsNone(re.search(r"[^ -~\n]", text))
            self.assertIsNone(re.search(WORDS, text))
            self.assertLessEqual(len(text.split("\n")), 400)
            self.assertLessEqual(max(len(row) for row in text.split("\n")), 120)

    def test_functions(self):
        for path, text in self.each():
            for node in ast.walk(ast.parse(text)):
                if isinstance(node, (ast.FunctionDef, ast.ClassDef)):
                    self.assertEqual(node.decorator_list, [])
                if isinstance(node, ast.FunctionDef):
                    self.assertLessEqual(node.end_lineno - node.lineno + 1, 40, node.name)
                    self.assertFalse(node.args.vararg or node.args.kwarg or node.args.kwonlyargs, node.name)

    def test_statements_and_expressions(self):
        for path, text in self.each():
            for node in ast.walk(ast.parse(text)):
                self.assertNotIsInstance(node, OUT)
                if isinstance(node, ast.Assign):
                    self.assertEqual(len(node.targets), 1)
                    self.assertNotIsInstance(node.targets[0], ast.Tuple)
                if isinstance(node, (ast.For, ast.While)):
                    self.assertEqual(node.orelse, [])
                if isinstance(node, ast.Constant):
                    self.assertNotIsInstance(node.value, (float, bytes))

    def test_is_stands_beside_none_true_and_false_alone(self):
        for path, text in self.each():
            for node in ast.walk(ast.parse(text)):
                if isinstance(node, ast.Compare) and isinstance(node.ops[0], (ast.Is, ast.IsNot)):
                    self.assertIsInstance(node.comparators[0], ast.Constant)
                    self.assertIn(node.comparators[0].value, (None, True, False))

    def test_what_is_walked_at_once_is_not_kept(self):
        for path, text in self.each():
            for node in ast.walk(ast.parse(text)):
                if isinstance(node, (ast.Assign, ast.Return)) and isinstance(node.value, ast.Call):
                    called = node.value.func
                    name = called.attr if isinstance(called, ast.Attribute) else called.id
                    self.assertNotIn(name, ("range", "zip", "enumerate", "reversed", "items", "keys", "values", "set"))

    def test_imports(self):
        for path, text in self.each():
            for node in ast.walk(ast.parse(text)):
                if isinstance(node, ast.ImportFrom):
                    self.assertTrue(node.level == 0 and node.module.startswith("toolchoice."), node.module)

    def test_names(self):
        for path, text in self.each():
            tree = ast.parse(text)
            bound = set(bound_names(tree))
            self.assertEqual([name for name in bound if name.startswith("_") and name != "__init__"], [])
            self.assertEqual(sorted(bound & set(dir(builtins))), [])
            read = {node.id for node in ast.walk(tree) if isinstance(node, ast.Name)}
            self.assertEqual(sorted(read - bound - BUILT_IN), [])

    def test_methods_of_pythons_own(self):
        for path, text in self.each():
            for node in ast.walk(ast.parse(text)):
                if isinstance(node, ast.Call) and isinstance(node.func, ast.Attribute):
                    self.assertIn(node.func.attr, METHODS)


if __name__ == "__main__":
    unittest.main()
