"""The rules of LANGUAGE.md that can be seen in the package's files one by one."""

import ast
import builtins
import re
import unittest
from pathlib import Path

PACKAGE = Path(__file__).resolve().parent.parent / "shipstores"
FILES = sorted(PACKAGE.glob("*.py"))

STATEMENTS = (
    ast.Assign, ast.AugAssign, ast.If, ast.While, ast.For, ast.Return, ast.Break, ast.Continue, ast.Pass, ast.Raise,
    ast.Try, ast.Expr, ast.FunctionDef, ast.ClassDef, ast.ImportFrom,
)
EXPRESSIONS = (
    ast.Constant, ast.List, ast.Tuple, ast.Dict, ast.BinOp, ast.UnaryOp, ast.BoolOp, ast.Compare, ast.IfExp, ast.Call,
    ast.Attribute, ast.Subscript, ast.Slice, ast.ListComp, ast.JoinedStr, ast.FormattedValue, ast.Name, ast.Lambda,
)
OWN_NAMES = (
    "len range enumerate zip min max sum abs sorted reversed int str bool list tuple dict set frozenset isinstance ord "
    "repr any all divmod Exception ValueError TypeError KeyError IndexError LookupError ZeroDivisionError "
    "ArithmeticError OverflowError RuntimeError NotImplementedError AttributeError StopIteration"
).split()
METHODS = (
    "append clear copy count endswith extend find get index insert isalnum isalpha isdigit islower isspace isupper "
    "items join keys ljust lower lstrip partition pop remove replace reverse rfind rjust rpartition rsplit rstrip "
    "setdefault split splitlines startswith strip update upper values zfill bit_length"
).split()
NOWHERE = (
    "type typing typing_extensions enum Enum IntEnum StrEnum Flag IntFlag Generic Protocol ABC ABCMeta namedtuple "
    "NamedTuple TypedDict TYPE_CHECKING abstractmethod"
).split()
UNUSED = "register mro elements open input version_info with_traceback add_note format format_map".split()


def bound_names(tree):
    """Every name that is given a value somewhere in the file."""
    names = []
    for node in ast.walk(tree):
        if isinstance(node, ast.Name) and isinstance(node.ctx, ast.Store):
            names.append(node.id)
        elif isinstance(node, (ast.FunctionDef, ast.ClassDef)):
            names.append(node.name)
        elif isinstance(node, ast.arg):
            names.append(node.arg)
        elif isinstance(node, ast.alias):
            names.append(node.asname or node.name)
    return names


def own_imports(path):
    tree = ast.parse(path.read_text())
    return [node.module.split(".")[1] for node in tree.body if isinstance(node, ast.ImportFrom)]


class Files(unittest.TestCase):
    def test_nothing_else_lies_in_the_package(self):
        found = [path for path in PACKAGE.iterdir() if path.name != "__pycache__"]
        self.assertEqual(sorted(found), FILES)
        for path in FILES:
            self.assertRegex(path.name, r"^([a-z][a-z0-9_]*|__init__)\.py$")
            self.assertNotIn(path.stem, dir(builtins) + NOWHERE)

    def test_signs_and_sizes(self):
        for path in FILES:
            text = path.read_text(encoding="utf-8")
            self.assertRegex(text, r"\A[\n -~]*\Z", path)
            rows = text.split("\n")
            self.assertLessEqual(len(rows), 400, path)
            self.assertLessEqual(max(len(row) for row in rows), 120, path)
            for node in ast.walk(ast.parse(text)):
                if isinstance(node, ast.FunctionDef):
                    self.assertLessEqual(node.end_lineno - node.lineno + 1, 40, node.name)

    def test_words_that_stand_nowhere(self):
        for path in FILES:
            for word in re.findall(r"[A-Za-z_0-9]+", path.read_text()):
                self.assertNotIn(word, NOWHERE, path)
                self.assertIsNone(re.search("dataclass|overload|contextmanager", word), path)


class Trees(unittest.TestCase):
    def setUp(self):
        self.trees = [(path, ast.parse(path.read_text())) for path in FILES]

    def nodes(self, *kinds):
        for path, tree in self.trees:
            for node in ast.walk(tree):
                if isinstance(node, kinds):
                    yield f"{path.name}:{getattr(node, 'lineno', 0)}", node

    def test_statements_and_expressions(self):
        for place, node in self.nodes(ast.stmt):
            self.assertIsInstance(node, STATEMENTS, place)
        for place, node in self.nodes(ast.expr):
            self.assertIsInstance(node, EXPRESSIONS, place)
        for place, node in self.nodes(ast.Assign):
            self.assertEqual(len(node.targets), 1, place)
            self.assertNotIsInstance(node.targets[0], (ast.Tuple, ast.List), place)
        for place, node in self.nodes(ast.For, ast.While):
            self.assertEqual(node.orelse, [], place)
        for place, node in self.nodes(ast.ListComp):
            self.assertEqual(len(node.generators), 1, place)
            self.assertLessEqual(len(node.generators[0].ifs), 1, place)
        for place, node in self.nodes(ast.BinOp, ast.AugAssign):
            self.assertNotIsInstance(node.op, (ast.Div, ast.MatMult, ast.Pow), place)
        for place, node in self.nodes(ast.Constant):
            self.assertIsInstance(node.value, (int, str, type(None)), place)

    def test_imports(self):
        for place, node in self.nodes(ast.ImportFrom):
            self.assertEqual(node.level, 0, place)
            source = PACKAGE / (node.module.replace("shipstores.", "") + ".py")
            self.assertIn(source, FILES, place)
            here = [getattr(top, "name", None) for top in ast.parse(source.read_text()).body]
            for top in ast.parse(source.read_text()).body:
                if isinstance(top, ast.Assign):
                    here.append(top.targets[0].id)
            for alias in node.names:
                self.assertIsNone(alias.asname, place)
                self.assertIn(alias.name, here, place)

    def test_no_two_files_draw_from_one_another(self):
        drawn = {path.stem: own_imports(path) for path in FILES}
        left = dict(drawn)
        while left:
            free = [name for name in left if not set(left[name]) & set(left)]
            self.assertTrue(free, left)
            for name in free:
                left.pop(name)

    def test_functions_and_classes(self):
        for place, node in self.nodes(ast.FunctionDef):
            given = node.args
            self.assertEqual((node.decorator_list, given.vararg, given.kwarg, given.kwonlyargs, given.posonlyargs),
                             ([], None, None, [], []), place)
            self.assertTrue(node.returns is None and all(arg.annotation is None for arg in given.args), place)
        for place, node in self.nodes(ast.ClassDef):
            self.assertEqual((node.decorator_list, node.keywords), ([], []), place)
            self.assertLessEqual(len(node.bases), 1, place)

    def test_names(self):
        for path, tree in self.trees:
            bound = bound_names(tree)
            imported = [alias.name for top in tree.body if isinstance(top, ast.ImportFrom) for alias in top.names]
            for name in bound:
                self.assertRegex(name, r"^([A-Za-z][A-Za-z0-9_]*|__init__)$", path)
                self.assertFalse(name != "__init__" and hasattr(builtins, name), (path, name))
                self.assertEqual(bound.count(name) if name in imported else 1, 1, (path, name))
            for node in ast.walk(tree):
                if isinstance(node, ast.Name) and isinstance(node.ctx, ast.Load):
                    self.assertIn(node.id, bound + OWN_NAMES, f"{path.name}:{node.lineno}")

    def test_methods_and_values(self):
        own = [node.attr for place, node in self.nodes(ast.Attribute) if isinstance(node.ctx, ast.Store)]
        taken = [name for kind in (str, int, list, dict, set, bytes) for name in dir(kind)]
        for name in own:
            self.assertNotIn(name, taken + UNUSED)
        called = [node.func for place, node in self.nodes(ast.Call)]
        for place, node in self.nodes(ast.Attribute):
            if node in called:
                self.assertIn(node.attr, METHODS, place)
            else:
                self.assertIn(node.attr, own, place)

    def test_is_stands_beside_none_true_and_false(self):
        for place, node in self.nodes(ast.Compare):
            for operator, right in zip(node.ops, node.comparators):
                if isinstance(operator, (ast.Is, ast.IsNot)):
                    self.assertIn(getattr(right, "value", 0), (None, True, False), place)

    def test_walked_at_once(self):
        walkers = ("zip", "enumerate", "reversed", "range")
        allowed = []
        for place, node in self.nodes(ast.For, ast.comprehension):
            allowed.append(ast.dump(node.iter))
        for place, node in self.nodes(ast.Call):
            if isinstance(node.func, ast.Name) and node.func.id in walkers:
                self.assertIn(ast.dump(node), allowed, place)


if __name__ == "__main__":
    unittest.main()
