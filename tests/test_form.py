"""The rules of form that a machine can easily see."""

import ast
import builtins
import pathlib
import re
import unittest

FOLDER = pathlib.Path(__file__).resolve().parent.parent / "holefloor"
FILES = sorted(path for path in FOLDER.rglob("*") if path.is_file() and path.suffix != ".pyc")

BARRED_WORDS = re.compile(
    r"\b(type|typing|typing_extensions|enum|Enum|IntEnum|StrEnum|Flag|IntFlag|Generic|Protocol|ABC|ABCMeta"
    r"|namedtuple|NamedTuple|TypedDict|TYPE_CHECKING|abstractmethod)\b|dataclass|overload|contextmanager"
)
BARRED_NODES = (
    ast.With, ast.Match, ast.Global, ast.Nonlocal, ast.Yield, ast.YieldFrom, ast.Await, ast.AsyncFunctionDef,
    ast.AsyncFor, ast.AsyncWith, ast.GeneratorExp, ast.NamedExpr, ast.Import, ast.Div, ast.MatMult,
    ast.Pow, ast.AnnAssign, ast.Starred,
)
OWN_NAMES = set(
    "len range enumerate zip min max sum abs sorted reversed int str bool bytes list tuple dict set frozenset"
    " isinstance ord repr any all divmod Exception ValueError TypeError KeyError IndexError LookupError"
    " ZeroDivisionError ArithmeticError OverflowError RuntimeError NotImplementedError AttributeError"
    " StopIteration".split()
)
BUILT_IN = set(dir(builtins))
METHODS = set(
    "append clear copy count endswith extend find get index insert isalnum isalpha isdigit islower isspace isupper"
    " items join keys ljust lower lstrip partition pop remove replace reverse rfind rjust rpartition rsplit rstrip"
    " setdefault split splitlines startswith strip update upper values zfill bit_length add discard".split()
)


class Form(unittest.TestCase):
    def nodes(self):
        for path in FILES:
            for node in ast.walk(ast.parse(path.read_text())):
                yield path.name, node

    def test_only_plain_python_files(self):
        self.assertIn("__init__.py", [path.name for path in FILES])
        for path in FILES:
            self.assertRegex(path.name, r"^(__init__|[a-z][a-z0-9_]*)\.py$")

    def test_sizes_and_signs(self):
        for path in FILES:
            text = path.read_text()
            self.assertRegex(text, r"\A[ -~\n]*\Z", path.name)
            self.assertLessEqual(len(text.splitlines()), 400, path.name)
            for line in text.splitlines():
                self.assertLessEqual(len(line), 120, (path.name, line))
            self.assertIsNone(BARRED_WORDS.search(text), path.name)

    def test_functions_are_short_and_bare(self):
        for name, node in self.nodes():
            if isinstance(node, ast.FunctionDef):
                self.assertLessEqual(node.end_lineno - node.lineno + 1, 40, (name, node.name))
                self.assertEqual(node.decorator_list, [], (name, node.name))
                self.assertIsNone(node.args.vararg or node.args.kwarg, (name, node.name))

    def test_imports_are_the_packages_own(self):
        for name, node in self.nodes():
            if isinstance(node, ast.ImportFrom):
                self.assertEqual(node.level, 0, name)
                self.assertRegex(node.module, r"^holefloor\.[a-z]+$", name)
                self.assertNotIn("*", [alias.name for alias in node.names], name)

    def test_each_name_is_drawn_from_the_file_that_defines_it(self):
        trees = {path.stem: ast.parse(path.read_text()) for path in FILES}
        drawn = {}
        for name, tree in trees.items():
            rows = [row for row in tree.body if isinstance(row, ast.ImportFrom)]
            drawn[name] = {row.module.split(".")[1] for row in rows}
            for row in rows:
                source = trees[row.module.split(".")[1]]
                self.assertLessEqual({alias.name for alias in row.names}, self.tops(source), name)
        # Files that draw from no file left go away until none is left, but where some draw from one another.
        while drawn:
            free = {name for name, others in drawn.items() if not others & set(drawn)}
            self.assertTrue(free, drawn)
            drawn = {name: others for name, others in drawn.items() if name not in free}

    def tops(self, tree):
        names = [row.name for row in tree.body if isinstance(row, (ast.FunctionDef, ast.ClassDef))]
        names += [target.id for row in tree.body if isinstance(row, ast.Assign) for target in row.targets]
        return set(names)

    def test_no_local_is_called_like_an_import_or_a_class(self):
        for path in FILES:
            tree = ast.parse(path.read_text())
            top = {alias.name for row in tree.body if isinstance(row, ast.ImportFrom) for alias in row.names}
            top |= {row.name for row in tree.body if isinstance(row, ast.ClassDef)}
            for node in ast.walk(tree):
                if isinstance(node, ast.Name) and isinstance(node.ctx, ast.Store):
                    self.assertNotIn(node.id, top, path.name)
                    self.assertRegex(node.id, r"^[A-Za-z]", path.name)
                if isinstance(node, ast.arg):
                    self.assertNotIn(node.arg, top, path.name)
                    self.assertRegex(node.arg, r"^[A-Za-z]", path.name)

    def test_nothing_barred_is_written(self):
        for name, node in self.nodes():
            self.assertNotIsInstance(node, BARRED_NODES, name)
            if isinstance(node, ast.Constant):
                self.assertNotIsInstance(node.value, (float, complex), name)
                self.assertNotIn("%", str(node.value), name)
            if isinstance(node, ast.Name) and node.id in BUILT_IN:
                self.assertIn(node.id, OWN_NAMES, name)
                self.assertIsInstance(node.ctx, ast.Load, (name, node.id))
            if isinstance(node, ast.arg):
                self.assertNotIn(node.arg, BUILT_IN, name)

    def test_each_name_of_a_top_is_bound_once_and_holds_plain_things(self):
        for path in FILES:
            tree = ast.parse(path.read_text())
            names = [alias.name for row in tree.body if isinstance(row, ast.ImportFrom) for alias in row.names]
            names += [row.name for row in tree.body if isinstance(row, (ast.FunctionDef, ast.ClassDef))]
            for row in tree.body:
                self.assertIsInstance(row, (ast.Expr, ast.ImportFrom, ast.FunctionDef, ast.ClassDef, ast.Assign), path)
                if isinstance(row, ast.Assign):
                    names += [target.id for target in row.targets]
                    inner = [node for node in ast.walk(row.value) if node is not row.value]
                    for node in inner:
                        self.assertNotIsInstance(node, (ast.List, ast.Dict, ast.Set, ast.Call, ast.ListComp), path)
            self.assertEqual(len(set(names)), len(names), path.name)

    def test_methods_and_values(self):
        classes = [node for name, node in self.nodes() if isinstance(node, ast.ClassDef)]
        methods = [row.name for node in classes for row in node.body if isinstance(row, ast.FunctionDef)]
        values = {
            target.attr for node in classes for row in ast.walk(node) if isinstance(row, ast.Assign)
            for target in row.targets if isinstance(target, ast.Attribute)
        }
        own = {method for method in methods if method != "__init__"}
        self.assertFalse(own & values)
        self.assertFalse((own | values) & METHODS)
        for name, node in self.nodes():
            if isinstance(node, ast.Attribute):
                self.assertIn(node.attr, METHODS | own | values, name)

    def test_statements(self):
        for name, node in self.nodes():
            if isinstance(node, (ast.For, ast.While)):
                self.assertEqual(node.orelse, [], name)
            if isinstance(node, ast.Try):
                self.assertEqual(node.finalbody, [], name)
                for handler in node.handlers:
                    self.assertRegex(handler.type.id, r"^(No[A-Z]|Too|Apart)", name)
            if isinstance(node, ast.Raise):
                self.assertIsInstance(node.exc, ast.Call, name)
            if isinstance(node, ast.Compare):
                for sign, right in zip(node.ops, node.comparators):
                    if isinstance(sign, (ast.Is, ast.IsNot)):
                        self.assertIn(ast.unparse(right), ("None", "True", "False"), name)

    def test_sets_are_asked_or_kept_as_told(self):
        for path in FILES:
            tree = ast.parse(path.read_text())
            straight = [row.value for row in ast.walk(tree) if isinstance(row, ast.Assign)]
            for node in ast.walk(tree):
                if isinstance(node, ast.Call) and isinstance(node.func, ast.Name) and node.func.id in ("sorted", "len"):
                    straight += node.args
            for node in ast.walk(tree):
                is_call = isinstance(node, ast.Call) and isinstance(node.func, ast.Name) and node.func.id == "set"
                if is_call or isinstance(node, (ast.Set, ast.SetComp)):
                    self.assertIn(node, straight, path.name)
