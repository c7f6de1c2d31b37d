"""Holds the package's files against the part of Python that they keep to, as far as a walk over them can see it."""

import ast
import builtins
import pathlib
import re
import unittest

PACKAGE = pathlib.Path(__file__).resolve().parent.parent / "spinboard"

STATEMENTS = (
    ast.Assign, ast.AugAssign, ast.If, ast.While, ast.For, ast.Return, ast.Break, ast.Continue, ast.Pass, ast.Raise,
    ast.Try, ast.Expr, ast.FunctionDef, ast.ClassDef, ast.ImportFrom,
)
EXPRESSIONS = (
    ast.Constant, ast.List, ast.Tuple, ast.Dict, ast.Set, ast.BinOp, ast.UnaryOp, ast.BoolOp, ast.Compare, ast.IfExp,
    ast.Call, ast.Attribute, ast.Subscript, ast.Slice, ast.ListComp, ast.JoinedStr, ast.FormattedValue, ast.Name,
    ast.Lambda,
)
OWN_NAMES = set(
    "len range enumerate zip min max sum abs sorted reversed int str bool list tuple dict set isinstance ord repr"
    " any all divmod Exception ValueError KeyError IndexError LookupError ZeroDivisionError ArithmeticError"
    " OverflowError RuntimeError NotImplementedError AttributeError StopIteration".split()
)
METHODS = set(
    "append clear copy count endswith extend find get index insert isalnum isalpha isdigit islower isspace isupper"
    " items join keys ljust lower lstrip partition pop remove replace reverse rfind rjust rpartition rsplit rstrip"
    " setdefault split splitlines startswith strip update upper values zfill bit_length __init__".split()
)
UNUSED_WORDS = re.compile(
    r"\b(type|typing|typing_extensions|enum|Enum|IntEnum|StrEnum|Flag|IntFlag|Generic|Protocol|ABC|ABCMeta|namedtuple"
    r"|NamedTuple|TypedDict|TYPE_CHECKING|abstractmethod)\b|dataclass|overload|contextmanager"
)
DUNDERS = {"__init__", "__eq__", "__repr__", "__str__", "__len__"}


def bound_names(tree):
    for node in ast.walk(tree):
        if isinstance(node, ast.Name) and isinstance(node.ctx, ast.Store):
            yield node.id
        elif isinstance(node, ast.arg):
            yield node.arg


def is_walk(node):
    if not isinstance(node, ast.Call):
        return False
    if isinstance(node.func, ast.Attribute):
        return node.func.attr in ("items", "keys", "values")
    return isinstance(node.func, ast.Name) and node.func.id in ("zip", "enumerate", "reversed", "range")


def walked_at(node):
    """What a node walks on the spot."""
    if isinstance(node, (ast.For, ast.comprehension)):
        return [node.iter]
    if isinstance(node, ast.Call) and isinstance(node.func, ast.Name):
        if node.func.id in ("list", "tuple", "dict", "sorted", "sum", "any", "all", "enumerate", "zip"):
            return node.args[:1]
        if node.func.id in ("min", "max") and len(node.args) == 1:
            return node.args
    if isinstance(node, ast.Call) and isinstance(node.func, ast.Attribute) and node.func.attr == "join":
        return node.args if isinstance(node.func.value, ast.Constant) else []
    return []


class Form(unittest.TestCase):
    def trees(self):
        for path in sorted(PACKAGE.glob("*.py")):
            yield path, ast.parse(path.read_text(encoding="ascii"))

    def nodes(self, kind):
        for path, tree in self.trees():
            for node in ast.walk(tree):
                if isinstance(node, kind):
                    yield f"{path.name}:{getattr(node, 'lineno', 0)}", node

    def test_only_plain_files_lie_there(self):
        names = [path.name for path in PACKAGE.iterdir() if path.name != "__pycache__"]
        self.assertIn("__init__.py", names)
        for name in names:
            self.assertRegex(name, r"\A([a-z][a-z0-9_]*|__init__|__main__)\.py\Z")
            self.assertFalse(name.startswith("test"), name)

    def test_signs_and_sizes(self):
        for path, tree in self.trees():
            rows = path.read_bytes().decode("ascii").split("\n")
            self.assertLessEqual(len(rows), 400, path.name)
            for row in rows:
                self.assertRegex(row, r"\A[ -~]{0,120}\Z", path.name)
                self.assertNotRegex(row, UNUSED_WORDS, path.name)
        for where, node in self.nodes(ast.FunctionDef):
            self.assertLessEqual(node.end_lineno - node.lineno + 1, 40, where)

    def test_imports_are_the_package_s_own_and_go_one_way(self):
        drawn = {}
        for path, tree in self.trees():
            drawn[f"spinboard.{path.stem}"] = [n.module for n in tree.body if isinstance(n, ast.ImportFrom)]
        done = {name for name, needs in drawn.items() if not needs}
        for turn in drawn:
            done |= {name for name, needs in drawn.items() if done.issuperset(needs)}
        self.assertEqual(sorted(done), sorted(drawn))
        for where, node in self.nodes(ast.ImportFrom):
            self.assertEqual(node.level, 0, where)
            for name in node.names:
                self.assertIsNone(name.asname, where)
                self.assertNotEqual(name.name, "*", where)

    def test_statements_and_expressions(self):
        for where, node in self.nodes(ast.stmt):
            self.assertIsInstance(node, STATEMENTS, where)
            self.assertFalse(isinstance(node, (ast.For, ast.While)) and node.orelse, where)
            if isinstance(node, ast.Assign):
                self.assertEqual(len(node.targets), 1, where)
                self.assertNotIsInstance(node.targets[0], (ast.Tuple, ast.List), where)
        for where, node in self.nodes(ast.expr):
            self.assertIsInstance(node, EXPRESSIONS, where)
            if isinstance(node, ast.Constant):
                self.assertIn(node.value.__class__, (int, str, bool, None.__class__), where)
            if isinstance(node, ast.ListComp):
                self.assertEqual(len(node.generators), 1, where)
                self.assertLessEqual(len(node.generators[0].ifs), 1, where)
            if isinstance(node, ast.BinOp):
                self.assertNotIsInstance(node.op, (ast.Div, ast.MatMult), where)
                if isinstance(node.op, ast.Pow):
                    self.assertIn(getattr(node.right, "value", None), range(65), where)

    def test_defs_and_classes(self):
        for where, node in self.nodes(ast.FunctionDef):
            self.assertEqual(node.decorator_list, [], where)
            plain = node.args
            self.assertFalse(plain.vararg or plain.kwarg or plain.kwonlyargs or plain.posonlyargs, where)
        for where, node in self.nodes(ast.ClassDef):
            self.assertFalse(node.decorator_list or node.keywords or len(node.bases) > 1, where)
            for part in node.body:
                self.assertIsInstance(part, (ast.FunctionDef, ast.Pass), where)

    def test_the_top_of_a_file(self):
        for path, tree in self.trees():
            self.assertIsInstance(ast.get_docstring(tree), str, path.name)
            for node in tree.body[1:]:
                self.assertIsInstance(node, (ast.ImportFrom, ast.FunctionDef, ast.ClassDef, ast.Assign), path.name)
            tops = [node.name for node in tree.body if isinstance(node, (ast.FunctionDef, ast.ClassDef))]
            self.assertEqual(len(set(tops)), len(tops), path.name)

    def test_names(self):
        for path, tree in self.trees():
            taken = {name.name for node in tree.body if isinstance(node, ast.ImportFrom) for name in node.names}
            taken |= {node.name for node in tree.body if isinstance(node, ast.ClassDef)}
            bound = set(bound_names(tree))
            self.assertEqual(bound & taken, set(), path.name)
            self.assertEqual(bound & set(dir(builtins)), set(), path.name)
            self.assertEqual([name for name in bound if name.startswith("_")], [], path.name)
        for where, node in self.nodes(ast.Name):
            if node.id in dir(builtins):
                self.assertIn(node.id, OWN_NAMES, where)
        for where, node in self.nodes(ast.FunctionDef):
            self.assertTrue(node.name in DUNDERS or not node.name.startswith("_"), where)
            self.assertNotIn(node.name, dir(builtins), where)

    def test_methods_that_are_called(self):
        own = {node.name for where, node in self.nodes(ast.FunctionDef)}
        for where, node in self.nodes(ast.Call):
            if isinstance(node.func, ast.Attribute):
                self.assertIn(node.func.attr, METHODS | own, where)

    def test_methods_and_values_of_objects_have_names_of_their_own(self):
        methods = {part.name for _, node in self.nodes(ast.ClassDef) for part in node.body if hasattr(part, "name")}
        stored = {node.attr for _, node in self.nodes(ast.Attribute) if isinstance(node.ctx, ast.Store)}
        self.assertEqual(methods & stored, set())
        for kind in (str, int, list, dict, set, bytes):
            self.assertEqual((methods | stored) & set(dir(kind)) - DUNDERS, set())

    def test_a_class_is_called_or_is_a_base_or_stands_by_its_like(self):
        for path, tree in self.trees():
            held = set()
            for node in ast.walk(tree):
                if isinstance(node, ast.Call):
                    held |= {id(part) for part in ast.walk(node.func)}
                    held |= {id(part) for part in node.args[1:] if getattr(node.func, "id", "") == "isinstance"}
                elif isinstance(node, ast.ClassDef):
                    held |= {id(part) for part in node.bases}
                elif isinstance(node, ast.ExceptHandler):
                    held |= {id(part) for part in ast.walk(node.type)}
            named = {name.name for node in tree.body if isinstance(node, ast.ImportFrom) for name in node.names}
            named |= {node.name for node in tree.body if isinstance(node, ast.ClassDef)}
            for node in ast.walk(tree):
                if isinstance(node, ast.Name) and node.id in named and node.id[0].isupper() and not node.id.isupper():
                    self.assertIn(id(node), held, f"{path.name}:{node.lineno}")

    def test_walks_are_not_kept(self):
        for path, tree in self.trees():
            walked = {id(part) for node in ast.walk(tree) for part in walked_at(node)}
            for node in ast.walk(tree):
                if is_walk(node):
                    self.assertIn(id(node), walked, f"{path.name}:{node.lineno}")

    def test_is_stands_beside_none_true_false(self):
        for where, node in self.nodes(ast.Compare):
            if any(isinstance(op, (ast.Is, ast.IsNot)) for op in node.ops):
                sides = [node.left] + node.comparators
                named = [side for side in sides if isinstance(side, ast.Constant) and side.value in (None, True, False)]
                self.assertNotEqual(named, [], where)


if __name__ == "__main__":
    unittest.main()
