"""Some of the rules of LANGUAGE.md that can be read off the package's files without running them."""

import ast
import builtins
import os
import re
import unittest

PACKAGE = os.path.join(os.path.dirname(os.path.dirname(os.path.abspath(__file__))), "squaresteps")

# L6, L7: what a file may be made of.
NODES = set(
    """Module FunctionDef ClassDef arguments arg Return Assign AugAssign If While For Break Continue Pass Raise Try
    ExceptHandler Expr Import ImportFrom alias Constant Name Load Store Attribute Subscript Slice Call keyword
    List Tuple Dict Set ListComp comprehension Lambda IfExp BoolOp And Or UnaryOp Not USub Invert BinOp Add Sub Mult
    FloorDiv Mod Pow BitAnd BitOr BitXor LShift RShift Compare Eq NotEq Lt LtE Gt GtE Is IsNot In NotIn
    JoinedStr FormattedValue""".split()
)

# L8: Python's own names that may be used.
OWN_NAMES = set(
    """len range enumerate zip min max sum abs sorted reversed int str bool list tuple dict set frozenset isinstance
    ord repr any all divmod Exception ValueError TypeError KeyError IndexError LookupError ZeroDivisionError
    ArithmeticError OverflowError RuntimeError NotImplementedError AttributeError StopIteration""".split()
)

# L17: words that stand nowhere.
BARRED = re.compile(
    r"\b(type|typing|typing_extensions|enum|Enum|IntEnum|StrEnum|Flag|IntFlag|Generic|Protocol|ABC|ABCMeta|namedtuple|"
    r"NamedTuple|TypedDict|TYPE_CHECKING|abstractmethod)\b|dataclass|overload|contextmanager"
)

PLAIN = re.compile(r"\A[A-Za-z][A-Za-z0-9_]*\Z")


def texts():
    """Each file's name and its text."""
    found = {}
    for name in sorted(os.listdir(PACKAGE)):
        if name != "__pycache__":
            with open(os.path.join(PACKAGE, name), encoding="utf-8", newline="") as file:
                found[name] = file.read()
    return found


def each(*kinds):
    """The nodes of these kinds, each behind the place where it stands."""
    found = []
    for name, text in texts().items():
        for node in ast.walk(ast.parse(text)):
            if isinstance(node, kinds):
                found.append((f"{name}, line {getattr(node, 'lineno', 0)}", node))
    return found


class TextTest(unittest.TestCase):
    def test_file_names(self):
        for name in texts():
            self.assertRegex(name, r"\A([a-z][a-z0-9_]*|__init__|__main__)\.py\Z")
        self.assertIn("__init__.py", texts())

    def test_signs_and_lengths(self):
        for name, text in texts().items():
            with self.subTest(name=name):
                self.assertRegex(text, r"\A[ -~\n]*\Z")
                self.assertLessEqual(text.count("\n"), 400)
                self.assertLessEqual(max(len(line) for line in text.split("\n")), 120)

    def test_barred_words(self):
        for name, text in texts().items():
            with self.subTest(name=name):
                self.assertIsNone(BARRED.search(text))


class TreeTest(unittest.TestCase):
    def test_nodes(self):
        for where, node in each(ast.AST):
            self.assertIn(node.__class__.__name__, NODES, where)

    def test_functions(self):
        for where, node in each(ast.FunctionDef):
            self.assertLessEqual(node.end_lineno - node.lineno + 1, 40, where)
            self.assertEqual(node.decorator_list, [], where)
            self.assertIsNone(node.args.vararg or node.args.kwarg, where)

    def test_imports(self):
        self.assertEqual(each(ast.Import), [])
        for where, node in each(ast.ImportFrom):
            self.assertEqual(node.level, 0, where)
            self.assertRegex(node.module, r"\Asquaresteps\.[a-z][a-z0-9_]*\Z", where)

    def test_names(self):
        for where, node in each(ast.Name):
            self.assertRegex(node.id, PLAIN, where)
            if hasattr(builtins, node.id):
                self.assertIn(node.id, OWN_NAMES, where)
                self.assertIsInstance(node.ctx, ast.Load, where)
        for where, node in each(ast.arg):
            self.assertRegex(node.arg, PLAIN, where)
            self.assertFalse(hasattr(builtins, node.arg), where)
        for where, node in each(ast.Attribute):
            self.assertRegex(node.attr, PLAIN, where)

    def test_no_name_is_a_method_here_and_a_value_there(self):
        inside = [statement for where, node in each(ast.ClassDef) for statement in node.body]
        methods = {statement.name for statement in inside if isinstance(statement, ast.FunctionDef)}
        values = {node.attr for where, node in each(ast.Attribute) if isinstance(node.ctx, ast.Store)}
        self.assertEqual(methods & values, set())
        for kind in (str, int, list, tuple, dict, set, bytes):
            self.assertEqual((methods | values) & set(dir(kind)), {"__init__"})

    def test_no_local_is_called_like_a_class_or_an_import(self):
        for name, text in texts().items():
            tree = ast.parse(text)
            above = {node.name for node in tree.body if isinstance(node, (ast.ClassDef, ast.FunctionDef))}
            above |= {alias.name for node in tree.body if isinstance(node, ast.ImportFrom) for alias in node.names}
            names = [node for node in ast.walk(tree) if isinstance(node, ast.Name)]
            bound = {node.id for node in names if isinstance(node.ctx, ast.Store)}
            bound |= {node.arg for node in ast.walk(tree) if isinstance(node, ast.arg)}
            self.assertEqual(above & bound, set(), name)

    def test_what_is_walked_is_not_kept(self):
        walked = {"zip", "enumerate", "reversed", "range"}
        for where, node in each(ast.Assign, ast.Return):
            if isinstance(node.value, ast.Call) and isinstance(node.value.func, ast.Name):
                self.assertNotIn(node.value.func.id, walked, where)

    def test_no_file_draws_from_one_that_draws_from_it(self):
        drawn = {}
        for where, node in each(ast.ImportFrom):
            drawn.setdefault(where.split(".")[0], set()).add(node.module.split(".")[1])
        for name in drawn:
            reached = set()
            left = set(drawn[name])
            while left:
                other = left.pop()
                reached.add(other)
                left |= drawn.get(other, set()) - reached
            self.assertNotIn(name, reached)

    def test_targets_values_and_loops(self):
        for where, node in each(ast.Assign):
            self.assertEqual(len(node.targets), 1, where)
        for where, node in each(ast.Constant):
            self.assertIn(node.value.__class__, (int, str, bool, None.__class__), where)
        for where, node in each(ast.For, ast.While):
            self.assertEqual(node.orelse, [], where)
        for where, node in each(ast.ListComp):
            self.assertEqual(len(node.generators), 1, where)
            self.assertLessEqual(len(node.generators[0].ifs), 1, where)


if __name__ == "__main__":
    unittest.main()
