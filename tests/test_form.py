"""Looks at some of the rules that the package's code keeps to, not at all of them.

In the whole or in part: L1, L2, L4 to L8, L10, L12, L14, L17, L20. The others are for the reader.
"""

import ast
import builtins
import pathlib
import re
import unittest

PACKAGE = pathlib.Path(__file__).resolve().parent.parent / "sluice"

STATEMENTS = (
    ast.Assign, ast.AugAssign, ast.AnnAssign, ast.If, ast.While, ast.For, ast.Return, ast.Break, ast.Continue,
    ast.Pass, ast.Raise, ast.Try, ast.Expr, ast.FunctionDef, ast.ClassDef, ast.ImportFrom,
)
EXPRESSIONS = (
    ast.BoolOp, ast.BinOp, ast.UnaryOp, ast.Lambda, ast.IfExp, ast.Dict, ast.Set, ast.ListComp, ast.Compare,
    ast.Call, ast.JoinedStr, ast.FormattedValue, ast.Constant, ast.Attribute, ast.Subscript, ast.Name, ast.List,
    ast.Tuple, ast.Slice,
)
BUILTINS = set(
    "len range enumerate zip min max sum abs sorted reversed int str bool list tuple dict set frozenset isinstance "
    "ord repr any all divmod Exception ValueError TypeError KeyError IndexError LookupError ZeroDivisionError "
    "ArithmeticError OverflowError RuntimeError NotImplementedError AttributeError StopIteration".split()
)
METHODS_WITH_UNDERSCORES = {"__init__", "__eq__", "__repr__", "__str__", "__len__"}
NOT_USED = set(
    "register mro elements open input version_info with_traceback add_note format format_map sort".split()
)
WORDS = re.compile(
    r"\b(type|typing|typing_extensions|enum|Enum|IntEnum|StrEnum|Flag|IntFlag|Generic|Protocol|ABC|ABCMeta|namedtuple"
    r"|NamedTuple|TypedDict|TYPE_CHECKING|abstractmethod)\b|dataclass|overload|contextmanager"
)


def bound_names(tree):
    for node in ast.walk(tree):
        if isinstance(node, (ast.FunctionDef, ast.ClassDef)):
            yield node.name
        elif isinstance(node, ast.arg):
            yield node.arg
        elif isinstance(node, ast.alias):
            yield node.asname or node.name
        elif isinstance(node, ast.Name) and isinstance(node.ctx, ast.Store):
            yield node.id
        elif isinstance(node, ast.ExceptHandler) and node.name:
            yield node.name


class Form(unittest.TestCase):
    def setUp(self):
        self.files = sorted(PACKAGE.glob("*.py"))
        self.trees = {path.name: ast.parse(path.read_text()) for path in self.files}

    def look(self, kind, keeps):
        """Each node of that kind keeps to a rule; those that do not are told by file and line."""
        for name, tree in self.trees.items():
            for node in ast.walk(tree):
                if isinstance(node, kind) and not keeps(node):
                    with self.subTest(file=name, line=getattr(node, "lineno", None)):
                        self.fail(ast.dump(node)[:200])

    def test_files(self):
        there = [path for path in PACKAGE.iterdir() if path.name != "__pycache__"]
        self.assertEqual(sorted(there), self.files)
        self.assertIn(PACKAGE / "__init__.py", self.files)
        for path in self.files:
            self.assertRegex(path.name, r"^(__init__|[a-z][a-z0-9_]*)\.py$")

    def test_signs_and_sizes(self):
        for path in self.files:
            rows = path.read_bytes().decode("ascii").split("\n")
            self.assertLessEqual(len(rows), 401, path.name)
            for place, row in enumerate(rows, start=1):
                with self.subTest(file=path.name, line=place):
                    self.assertRegex(row, r"^[ -~]{0,120}$")
                    self.assertNotRegex(row, WORDS)
        self.look(ast.FunctionDef, lambda node: node.end_lineno - node.lineno < 40)

    def test_statements(self):
        self.look(ast.stmt, lambda node: isinstance(node, STATEMENTS))
        self.look((ast.While, ast.For), lambda node: not node.orelse)
        self.look(ast.Try, lambda node: not node.finalbody)
        self.look(ast.ExceptHandler, lambda node: node.type)
        self.look(ast.Assign, lambda node: len(node.targets) == 1)
        self.look((ast.FunctionDef, ast.ClassDef), lambda node: not node.decorator_list)

    def test_expressions(self):
        self.look(ast.expr, lambda node: isinstance(node, EXPRESSIONS))
        self.look(ast.Constant, lambda node: node.value is None or isinstance(node.value, (int, str)))
        self.look(ast.operator, lambda node: not isinstance(node, (ast.Div, ast.MatMult)))
        self.look(ast.ListComp, lambda node: len(node.generators) == 1 and len(node.generators[0].ifs) <= 1)

    def test_only_calls_stand_by_themselves(self):
        docstrings = [tree.body[0] for tree in self.trees.values()]
        self.look(ast.Expr, lambda node: node in docstrings or isinstance(node.value, ast.Call))

    def test_functions_have_plain_parameters(self):
        self.look(ast.arguments, lambda node: not (node.vararg or node.kwarg or node.kwonlyargs or node.posonlyargs))

    def test_classes_hold_methods_alone(self):
        self.look(ast.ClassDef, lambda node: len(node.bases) <= 1 and not node.keywords)
        self.look(ast.ClassDef, lambda node: all(isinstance(part, (ast.FunctionDef, ast.Pass)) for part in node.body))

    def test_imports_are_of_the_package_by_full_name(self):
        self.look(ast.ImportFrom, lambda node: node.level == 0 and re.match(r"sluice\.[a-z]", node.module))
        self.look(ast.alias, lambda node: node.name != "*")

    def test_names(self):
        for name, tree in self.trees.items():
            classes = [node for node in ast.walk(tree) if isinstance(node, ast.ClassDef)]
            methods = [part.name for one in classes for part in one.body if isinstance(part, ast.FunctionDef)]
            for bound in bound_names(tree):
                with self.subTest(file=name, bound=bound):
                    self.assertTrue(bound in METHODS_WITH_UNDERSCORES or re.match(r"[A-Za-z][A-Za-z0-9_]*$", bound))
                    self.assertNotIn(bound, NOT_USED)
                    # Only a method may be called like one of Python's own names.
                    self.assertTrue(bound in methods or not hasattr(builtins, bound))

    def test_only_some_of_pythons_own_names(self):
        self.look(ast.Name, lambda node: node.id in BUILTINS or not hasattr(builtins, node.id))
        self.look(ast.Attribute, lambda node: node.attr not in NOT_USED)
        self.look(ast.Attribute, lambda node: node.attr in METHODS_WITH_UNDERSCORES or node.attr[0] != "_")

    def test_is_stands_beside_none_true_and_false(self):
        def keeps(node):
            signs = [isinstance(sign, (ast.Is, ast.IsNot)) for sign in node.ops]
            plain = [isinstance(one, ast.Constant) and one.value in (None, True, False) for one in node.comparators]
            return all(beside or not sign for sign, beside in zip(signs, plain))

        self.look(ast.Compare, keeps)


if __name__ == "__main__":
    unittest.main()
