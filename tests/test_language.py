"""Whether the package keeps to those rules of the language that can be read off its files."""

import ast
import builtins
import pathlib
import re
import unittest

PACKAGE = pathlib.Path(__file__).resolve().parent.parent / "fadewalk"
OWN_NAMES = set(
    "len range enumerate zip min max sum abs sorted reversed int str bool bytes list tuple dict set frozenset "
    "isinstance ord repr any all divmod Exception ValueError TypeError KeyError IndexError LookupError "
    "ZeroDivisionError ArithmeticError OverflowError RuntimeError NotImplementedError AttributeError "
    "StopIteration".split()
)
BARRED_WORDS = re.compile(
    r"\b(type|typing|typing_extensions|enum|Enum|IntEnum|StrEnum|Flag|IntFlag|Generic|Protocol|ABC|ABCMeta"
    r"|namedtuple|NamedTuple|TypedDict|TYPE_CHECKING|abstractmethod)\b|dataclass|overload|contextmanager"
)
BARRED_FORMS = (
    ast.With, ast.Match, ast.Global, ast.Nonlocal, ast.Yield, ast.YieldFrom, ast.AsyncFunctionDef, ast.Await,
    ast.GeneratorExp, ast.NamedExpr, ast.Div, ast.Import,
)
UNDERSCORED = {"__init__", "__eq__", "__repr__", "__str__", "__len__"}
# Those of Python's own methods that this program may call; the rule's list is longer.
OWN_METHODS = set(
    "append clear copy count endswith extend find get index insert isalnum isalpha isdigit items join keys lower "
    "partition pop remove replace reverse rfind setdefault split splitlines startswith strip update upper values "
    "add discard".split()
)


def files():
    return sorted(PACKAGE.rglob("*.py"))


# Read once, so that a node is the same one whoever asks for it.
TREES = {path: ast.parse(path.read_text()) for path in files()}


def nodes(kinds):
    """Each node of such kinds in the package, with the words to find it by."""
    found = []
    for path in files():
        for node in ast.walk(TREES[path]):
            if isinstance(node, kinds):
                found.append((node, f"{path.name}:{getattr(node, 'lineno', 0)}"))
    return found


def bound_names():
    """All names that the package gives: defs, classes, parameters, targets and drawn names."""
    found = []
    for node, where in nodes((ast.FunctionDef, ast.ClassDef)):
        found.append((node.name, where))
    for node, where in nodes(ast.arg):
        found.append((node.arg, where))
    for node, where in nodes(ast.Name):
        if isinstance(node.ctx, ast.Store):
            found.append((node.id, where))
    for node, where in nodes(ast.alias):
        found.append((node.asname or node.name, where))
    return found


def methods():
    """The names of all methods of the package's classes."""
    return {part.name for node, where in nodes(ast.ClassDef) for part in node.body if isinstance(part, ast.FunctionDef)}


def values():
    """The names of all values that objects of the package are given."""
    return {node.attr for node, where in nodes(ast.Attribute) if isinstance(node.ctx, ast.Store)}


def drawn_files():
    """For each file of the package the ones it draws from."""
    found = {}
    for path in files():
        rows = [node for node in ast.walk(TREES[path]) if isinstance(node, ast.ImportFrom)]
        found[path.stem] = {row.module.split(".")[-1] for row in rows}
    return found


def above():
    """For each node of the package the one that it stands in."""
    return {id(part): node for tree in TREES.values() for node in ast.walk(tree) for part in ast.iter_child_nodes(node)}


def own_defs():
    """The defs of the files' tops, by name; no two files have one of the same name."""
    return {node.name: node for tree in TREES.values() for node in tree.body if isinstance(node, ast.FunctionDef)}


def is_lazy(node):
    """Whether a node is a call whose answer is to be walked on the spot."""
    if not isinstance(node, ast.Call):
        return False
    if isinstance(node.func, ast.Name):
        return node.func.id in ("zip", "enumerate", "reversed", "range")
    return isinstance(node.func, ast.Attribute) and node.func.attr in ("items", "keys", "values")


def top_names(tree, kinds):
    """The names of such nodes that stand at a file's top."""
    return {node.name for node in tree.body if isinstance(node, kinds)}


class Language(unittest.TestCase):
    def test_there_are_files(self):
        self.assertIn(PACKAGE / "__init__.py", files())

    def test_nothing_else_lies_in_the_package(self):
        for path in PACKAGE.rglob("*"):
            if "__pycache__" not in path.parts:
                self.assertTrue(path.is_dir() or path.suffix == ".py", path)

    def test_sizes_and_signs(self):
        for path in files():
            rows = path.read_text().split("\n")
            self.assertLessEqual(len(rows), 400, path)
            for at, row in enumerate(rows, start=1):
                self.assertLessEqual(len(row), 120, f"{path}:{at}")
                self.assertRegex(row, r"\A[ -~]*\Z", f"{path}:{at}")

    def test_functions_are_small(self):
        for node, where in nodes(ast.FunctionDef):
            self.assertLessEqual(node.end_lineno - node.lineno + 1, 40, where)

    def test_barred_words(self):
        for path in files():
            self.assertIsNone(BARRED_WORDS.search(path.read_text()), path)

    def test_barred_forms(self):
        self.assertEqual([where for node, where in nodes(BARRED_FORMS)], [])
        for node, where in nodes(ast.Starred):
            self.assertIsInstance(node.ctx, ast.Store, where)

    def test_decorators_and_gathered_parameters(self):
        for node, where in nodes((ast.FunctionDef, ast.ClassDef)):
            self.assertEqual(node.decorator_list, [], where)
        for node, where in nodes(ast.arguments):
            self.assertEqual((node.vararg, node.kwarg, node.posonlyargs), (None, None, []), where)

    def test_imports_are_the_package_s_own(self):
        for node, where in nodes(ast.ImportFrom):
            self.assertEqual(node.level, 0, where)
            self.assertTrue(node.module == "__future__" or node.module.startswith("fadewalk."), where)

    def test_values(self):
        for node, where in nodes(ast.Constant):
            self.assertIn(type(node.value), (int, str, bytes, bool, type(None)), where)
            if isinstance(node.value, str):
                self.assertNotIn("%", node.value, where)

    def test_is_stands_beside_none_and_truths(self):
        for node, where in nodes(ast.Compare):
            for sign, right in zip(node.ops, node.comparators):
                if isinstance(sign, (ast.Is, ast.IsNot)):
                    self.assertIn(getattr(right, "value", "other"), (None, True, False), where)

    def test_names_are_plain(self):
        for name, where in bound_names():
            self.assertTrue(name in UNDERSCORED or re.fullmatch(r"[A-Za-z][A-Za-z0-9_]*", name), f"{name} {where}")

    def test_python_s_own_names(self):
        given = {name for name, where in bound_names()}
        self.assertEqual(given & set(dir(builtins)), set())
        for node, where in nodes(ast.Name):
            self.assertTrue(node.id in given or node.id in OWN_NAMES, f"{node.id} {where}")

    def test_own_methods_and_values_bear_other_names(self):
        self.assertEqual(methods() & values(), set())
        self.assertEqual({name for name in methods() if name.startswith("_")} - UNDERSCORED, set())

    def test_what_is_asked_of_things_is_there(self):
        called = {id(node.func) for node, where in nodes(ast.Call)}
        for node, where in nodes(ast.Attribute):
            if id(node) in called:
                self.assertIn(node.attr, OWN_METHODS | methods(), where)
            else:
                self.assertIn(node.attr, values(), where)

    def test_errors_are_made_on_the_spot(self):
        for node, where in nodes(ast.Raise):
            self.assertTrue(node.exc is None or isinstance(node.exc.func, ast.Name), where)

    def test_exponents_are_written(self):
        for node, where in nodes(ast.BinOp):
            if isinstance(node.op, ast.Pow):
                self.assertIsInstance(node.right, ast.Constant, where)

    def test_no_two_files_draw_from_one_another(self):
        left = drawn_files()
        while left:
            ready = [name for name in left if not left[name] & set(left)]
            self.assertNotEqual(ready, [], sorted(left))
            for name in ready:
                del left[name]

    def test_names_are_drawn_from_the_file_that_defines_them(self):
        for node, where in nodes(ast.ImportFrom):
            tree = TREES[PACKAGE / f"{node.module.split('.')[-1]}.py"]
            given = top_names(tree, (ast.FunctionDef, ast.ClassDef))
            given |= {target.id for row in tree.body if isinstance(row, ast.Assign) for target in row.targets}
            for name in node.names:
                self.assertIn(name.name, given, where)
                self.assertIsNone(name.asname, where)

    def test_locals_are_not_called_like_classes_or_drawn_names(self):
        for path in files():
            tree = TREES[path]
            tops = top_names(tree, ast.ClassDef)
            tops |= {name.name for row in tree.body if isinstance(row, ast.ImportFrom) for name in row.names}
            for deed in ast.walk(tree):
                if isinstance(deed, ast.FunctionDef):
                    given = {part.arg for part in ast.walk(deed) if isinstance(part, ast.arg)}
                    for part in ast.walk(deed):
                        if isinstance(part, ast.Name) and isinstance(part.ctx, ast.Store):
                            given.add(part.id)
                    self.assertEqual(given & tops, set(), f"{path.name}:{deed.lineno}")

    def test_what_is_walked_at_once_is_not_kept(self):
        parents = above()
        walkers = "list tuple dict sorted sum any all enumerate zip min max".split()
        for node, where in nodes(ast.Call):
            if is_lazy(node):
                parent = parents[id(node)]
                if isinstance(parent, (ast.For, ast.comprehension)):
                    self.assertIs(parent.iter, node, where)
                else:
                    self.assertIsInstance(parent, ast.Call, where)
                    reversed_range = parent.func.id == "reversed" and node.func.id == "range"
                    self.assertTrue(parent.func.id in walkers or reversed_range, where)

    def test_classes_are_not_handed_on(self):
        parents = above()
        classes = {node.name for node, where in nodes(ast.ClassDef)}
        for node, where in nodes(ast.Name):
            if node.id in classes:
                parent = parents[id(node)]
                if isinstance(parent, ast.Call) and parent.func is not node:
                    self.assertEqual((parent.func.id, parent.args.index(node)), ("isinstance", 1), where)
                else:
                    self.assertIsInstance(parent, (ast.Call, ast.ClassDef, ast.ExceptHandler, ast.Attribute), where)

    def test_methods_with_two_underscores_end_as_told(self):
        for node, where in nodes(ast.FunctionDef):
            told = [part.value for part in ast.walk(node) if isinstance(part, ast.Return)]
            if node.name == "__init__":
                self.assertEqual(told, [], where)
            elif node.name == "__len__":
                self.assertTrue(told and all(part.func.id == "len" for part in told), where)
            elif node.name in ("__repr__", "__str__"):
                for part in told:
                    self.assertTrue(isinstance(part, ast.JoinedStr) or part.func.id in ("str", "repr"), where)
            if node.name in UNDERSCORED - {"__init__"}:
                self.assertIsInstance(node.body[-1], ast.Return, where)

    def test_own_defs_are_handed_what_they_take(self):
        defs = own_defs()
        for node, where in nodes(ast.Call):
            if isinstance(node.func, ast.Name) and node.func.id in defs:
                takes = defs[node.func.id].args
                by_place = [part.arg for part in takes.args]
                by_name = [part.arg for part in takes.kwonlyargs]
                given = by_place[:len(node.args)] + [part.arg for part in node.keywords]
                self.assertLessEqual(len(node.args), len(by_place), where)
                self.assertEqual(len(set(given)), len(given), where)
                self.assertLessEqual(set(given), set(by_place + by_name), where)
                wanted = by_place[:len(by_place) - len(takes.defaults)]
                wanted += [name for name, part in zip(by_name, takes.kw_defaults) if part is None]
                self.assertLessEqual(set(wanted), set(given), where)

    def test_one_helper_a_package(self):
        names = [node.name for tree in TREES.values() for node in tree.body if isinstance(node, ast.FunctionDef)]
        self.assertEqual(len(names), len(set(names)), sorted(names))

    def test_sets_are_not_walked(self):
        for node, where in nodes((ast.For, ast.comprehension)):
            self.assertNotIsInstance(node.iter, (ast.Set, ast.SetComp), where)
            if isinstance(node.iter, ast.Call) and isinstance(node.iter.func, ast.Name):
                self.assertNotIn(node.iter.func.id, ("set", "frozenset"), where)


if __name__ == "__main__":
    unittest.main()
