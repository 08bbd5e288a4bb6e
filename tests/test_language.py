"""Whether the package keeps to those rules of the language that can be read off its files."""

import ast
import builtins
import pathlib
import re
import unittest

PACKAGE = pathlib.Path(__file__).resolve().parent.parent / "fadewalk"
OWN_NAMES = set(
    "len range enumerate zip min max sum abs sorted reversed int str bool bytes list tuple dict set frozenset "
    "isinstance ord repr any all divmod Exception ValueError TypeError KeyError IndexError LookupError "
    "ZeroDivisionError ArithmeticError OverflowError RuntimeError NotImplementedError AttributeError "
    "StopIteration".split()
)
BARRED_WORDS = re.compile(
    r"\b(type|typing|typing_extensions|enum|Enum|IntEnum|StrEnum|Flag|IntFlag|Generic|Protocol|ABC|ABCMeta"
    r"|namedtuple|NamedTuple|TypedDict|TYPE_CHECKING|abstractmethod)\b|dataclass|overload|contextmanager"
)
BARRED_FORMS = (
    ast.With, ast.Match, ast.Global, ast.Nonlocal, ast.Yield, ast.YieldFrom, ast.AsyncFunctionDef, ast.Await,
    ast.GeneratorExp, ast.NamedExpr, ast.Div, ast.Import,
)
UNDERSCORED = {"__init__", "__eq__", "__repr__", "__str__", "__len__"}


def files():
    return sorted(PACKAGE.rglob("*.py"))


def nodes(kinds):
    """Each node of such kinds in the package, with the words to find it by."""
    found = []
    for path in files():
        for node in ast.walk(ast.parse(path.read_text())):
            if isinstance(node, kinds):
                found.append((node, f"{path.name}:{getattr(node, 'lineno', 0)}"))
    return found


def bound_names():
    """All names that the package gives: defs, classes, parameters, targets and drawn names."""
    found = []
    for node, where in nodes((ast.FunctionDef, ast.ClassDef)):
        found.append((node.name, where))
    for node, where in nodes(ast.arg):
        found.append((node.arg, where))
    for node, where in nodes(ast.Name):
        if isinstance(node.ctx, ast.Store):
            found.append((node.id, where))
    for node, where in nodes(ast.alias):
        found.append((node.asname or node.name, where))
    return found


class Language(unittest.TestCase):
    def test_there_are_files(self):
        self.assertIn(PACKAGE / "__init__.py", files())

    def test_nothing_else_lies_in_the_package(self):
        for path in PACKAGE.rglob("*"):
            if "__pycache__" not in path.parts:
                self.assertTrue(path.is_dir() or path.suffix == ".py", path)

    def test_sizes_and_signs(self):
        for path in files():
            rows = path.read_text().split("\n")
            self.assertLessEqual(len(rows), 400, path)
            for at, row in enumerate(rows, start=1):
                self.assertLessEqual(len(row), 120, f"{path}:{at}")
                self.assertRegex(row, r"\A[ -~]*\Z", f"{path}:{at}")

    def test_functions_are_small(self):
        for node, where in nodes(ast.FunctionDef):
            self.assertLessEqual(node.end_lineno - node.lineno + 1, 40, where)

    def test_barred_words(self):
        for path in files():
            self.assertIsNone(BARRED_WORDS.search(path.read_text()), path)

    def test_barred_forms(self):
        self.assertEqual([where for node, where in nodes(BARRED_FORMS)], [])
        for node, where in nodes(ast.Starred):
            self.assertIsInstance(node.ctx, ast.Store, where)

    def test_decorators_and_gathered_parameters(self):
        for node, where in nodes((ast.FunctionDef, ast.ClassDef)):
            self.assertEqual(node.decorator_list, [], where)
        for node, where in nodes(ast.arguments):
            self.assertEqual((node.vararg, node.kwarg, node.posonlyargs), (None, None, []), where)

    def test_imports_are_the_package_s_own(self):
        for node, where in nodes(ast.ImportFrom):
            self.assertEqual(node.level, 0, where)
            self.assertTrue(node.module == "__future__" or node.module.startswith("fadewalk."), where)

    def test_values(self):
        for node, where in nodes(ast.Constant):
            self.assertIn(type(node.value), (int, str, bytes, bool, type(None)), where)
            if isinstance(node.value, str):
                self.assertNotIn("%", node.value, where)

    def test_is_stands_beside_none_and_truths(self):
        for node, where in nodes(ast.Compare):
            for sign, right in zip(node.ops, node.comparators):
                if isinstance(sign, (ast.Is, ast.IsNot)):
                    self.assertIn(getattr(right, "value", "other"), (None, True, False), where)

    def test_names_are_plain(self):
        for name, where in bound_names():
            self.assertTrue(name in UNDERSCORED or re.fullmatch(r"[A-Za-z][A-Za-z0-9_]*", name), f"{name} {where}")

    def test_python_s_own_names(self):
        given = {name for name, where in bound_names()}
        self.assertEqual(given & set(dir(builtins)), set())
        for node, where in nodes(ast.Name):
            self.assertTrue(node.id in given or node.id in OWN_NAMES, f"{node.id} {where}")


if __name__ == "__main__":
    unittest.main()
