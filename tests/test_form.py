"""Looks at some of the rules that the package's code keeps to, not at all of them.

In the whole or in part: L1 to L8, L10, L12 to L28. L9 and L11, and the rest of these, are for the reader.
"""

import ast
import builtins
import pathlib
import re
import unittest

PACKAGE = pathlib.Path(__file__).resolve().parent.parent / "sluice"

STATEMENTS = (
    ast.Assign, ast.AugAssign, ast.AnnAssign, ast.If, ast.While, ast.For, ast.Return, ast.Break, ast.Continue,
    ast.Pass, ast.Raise, ast.Try, ast.Expr, ast.FunctionDef, ast.ClassDef, ast.ImportFrom,
)
EXPRESSIONS = (
    ast.BoolOp, ast.BinOp, ast.UnaryOp, ast.Lambda, ast.IfExp, ast.Dict, ast.Set, ast.ListComp, ast.Compare,
    ast.Call, ast.JoinedStr, ast.FormattedValue, ast.Constant, ast.Attribute, ast.Subscript, ast.Name, ast.List,
    ast.Tuple, ast.Slice,
)
BUILTINS = set(
    "len range enumerate zip min max sum abs sorted reversed int str bool list tuple dict set frozenset isinstance "
    "ord repr any all divmod Exception ValueError TypeError KeyError IndexError LookupError ZeroDivisionError "
    "ArithmeticError OverflowError RuntimeError NotImplementedError AttributeError StopIteration".split()
)
METHODS_WITH_UNDERSCORES = {"__init__", "__eq__", "__repr__", "__str__", "__len__"}
NOT_USED = set(
    "register mro elements open input version_info with_traceback add_note format format_map sort".split()
)
NOT_NAMES = set(
    "attrgetter breakpoint builtins compile copyright credits delattr dir eval exec exit gc getattr globals hasattr "
    "help id importlib license locals methodcaller os quit setattr super type vars sys".split()
)
OWN_METHODS_OF_VALUES = set(
    "append clear copy count endswith extend find get index insert isalnum isalpha isdigit islower isspace isupper "
    "items join keys ljust lower lstrip partition pop remove replace reverse rfind rjust rpartition rsplit rstrip "
    "setdefault split splitlines startswith strip update upper values zfill bit_length".split()
)
KEYWORDS = {
    "sorted": {"key", "reverse"}, "min": {"key", "default"}, "max": {"key", "default"}, "sum": {"start"},
    "enumerate": {"start"}, "zip": {"strict"},
}
WALKED = {"zip", "enumerate", "reversed", "range"}
WALKED_METHODS = {"items", "keys", "values"}
WALKERS = {"list", "tuple", "dict", "sorted", "sum", "any", "all", "enumerate", "zip", "min", "max"}
READERS = {"get", "items", "keys", "values", "index", "count"}
WORDS = re.compile(
    r"\b(type|typing|typing_extensions|enum|Enum|IntEnum|StrEnum|Flag|IntFlag|Generic|Protocol|ABC|ABCMeta|namedtuple"
    r"|NamedTuple|TypedDict|TYPE_CHECKING|abstractmethod)\b|dataclass|overload|contextmanager"
)


def bound_names(tree):
    for node in ast.walk(tree):
        if isinstance(node, (ast.FunctionDef, ast.ClassDef)):
            yield node.name
        elif isinstance(node, ast.arg):
            yield node.arg
        elif isinstance(node, ast.alias):
            yield node.asname or node.name
        elif isinstance(node, ast.Name) and isinstance(node.ctx, ast.Store):
            yield node.id
        elif isinstance(node, ast.ExceptHandler) and node.name:
            yield node.name


def called(node):
    """The name that a call calls, of Python's own or of a file's; else None."""
    return node.func.id if isinstance(node, ast.Call) and isinstance(node.func, ast.Name) else None


def defined_at_top(tree):
    """The names that a file defines itself, one for each time."""
    names = [node.name for node in tree.body if isinstance(node, (ast.FunctionDef, ast.ClassDef))]
    return names + [node.targets[0].id for node in tree.body if isinstance(node, ast.Assign)]


def imported(tree):
    return [part.name for node in tree.body if isinstance(node, ast.ImportFrom) for part in node.names]


def is_plain(node, functions):
    """A whole number, a text, True, False, None, a function, or a list, tuple or dict of these."""
    if isinstance(node, (ast.List, ast.Tuple)):
        return all(is_plain(part, functions) for part in node.elts)
    if isinstance(node, ast.Dict):
        return all(is_plain(part, functions) for part in node.keys + node.values)
    if isinstance(node, ast.UnaryOp) and isinstance(node.op, ast.USub):
        node = node.operand
    return isinstance(node, ast.Constant) or isinstance(node, ast.Name) and node.id in functions


def is_written_value(node):
    """A whole number without a sign, a text, True, False or None, by itself."""
    return isinstance(node, ast.Constant) and (node.value is None or isinstance(node.value, (int, str)))


def has_written_defaults(arguments):
    behind_a_star = [node for node in arguments.kw_defaults if node is not None]
    return all(is_written_value(node) for node in arguments.defaults + behind_a_star)


class Form(unittest.TestCase):
    def setUp(self):
        self.files = sorted(PACKAGE.glob("*.py"))
        self.trees = {path.name: ast.parse(path.read_text()) for path in self.files}
        self.over = {part: node for tree in self.trees.values() for node in ast.walk(tree)
                     for part in ast.iter_child_nodes(node)}
        self.classes = {node.name: node for tree in self.trees.values() for node in tree.body
                        if isinstance(node, ast.ClassDef)}

    def look(self, kind, keeps):
        """Each node of that kind keeps to a rule; those that do not are told by file and line."""
        for name, tree in self.trees.items():
            for node in ast.walk(tree):
                if isinstance(node, kind) and not keeps(node):
                    with self.subTest(file=name, line=getattr(node, "lineno", None)):
                        self.fail(ast.dump(node)[:200])

    def test_files(self):
        there = [path for path in PACKAGE.iterdir() if path.name != "__pycache__"]
        self.assertEqual(sorted(there), self.files)
        self.assertIn(PACKAGE / "__init__.py", self.files)
        for path in self.files:
            self.assertRegex(path.name, r"^(__init__|[a-z][a-z0-9_]*)\.py$")

    def test_signs_and_sizes(self):
        for path in self.files:
            rows = path.read_bytes().decode("ascii").split("\n")
            self.assertLessEqual(len(rows), 401, path.name)
            for place, row in enumerate(rows, start=1):
                with self.subTest(file=path.name, line=place):
                    self.assertRegex(row, r"^[ -~]{0,120}$")
                    self.assertNotRegex(row, WORDS)
        self.look(ast.FunctionDef, lambda node: node.end_lineno - node.lineno < 40)

    def test_statements(self):
        self.look(ast.stmt, lambda node: isinstance(node, STATEMENTS))
        self.look((ast.While, ast.For), lambda node: not node.orelse)
        self.look(ast.Try, lambda node: not node.finalbody)
        self.look(ast.ExceptHandler, lambda node: node.type)
        self.look(ast.Assign, lambda node: len(node.targets) == 1)
        self.look((ast.FunctionDef, ast.ClassDef), lambda node: not node.decorator_list)

    def test_expressions(self):
        self.look(ast.expr, lambda node: isinstance(node, EXPRESSIONS))
        self.look(ast.Constant, lambda node: node.value is None or isinstance(node.value, (int, str)))
        self.look(ast.operator, lambda node: not isinstance(node, (ast.Div, ast.MatMult)))
        self.look(ast.ListComp, lambda node: len(node.generators) == 1 and len(node.generators[0].ifs) <= 1)

    def test_only_calls_stand_by_themselves(self):
        docstrings = [tree.body[0] for tree in self.trees.values()]
        self.look(ast.Expr, lambda node: node in docstrings or isinstance(node.value, ast.Call))

    def test_functions_have_plain_parameters(self):
        self.look(ast.arguments, lambda node: not (node.vararg or node.kwarg or node.kwonlyargs or node.posonlyargs))

    def test_defaults_are_written_values(self):
        self.look((ast.FunctionDef, ast.Lambda), lambda node: has_written_defaults(node.args))

    def test_which_defaults_are_written_values(self):
        for default in ("0", "7", "1_000", "''", "'a'", "True", "False", "None"):
            self.assertTrue(has_written_defaults(ast.parse(f"lambda one, two={default}: one").body[0].value.args))
        for default in ("-1", "+1", "~0", "()", "(1,)", "[]", "{}", "MOUTH", "1 + 1", "f''", "list()", "1.0", "..."):
            for told in (f"one={default}", f"one, two={default}", f"one={default}, two=1", f"one, *, two={default}"):
                with self.subTest(told):
                    self.assertFalse(has_written_defaults(ast.parse(f"lambda {told}: one").body[0].value.args))

    def test_classes_hold_methods_alone(self):
        self.look(ast.ClassDef, lambda node: len(node.bases) <= 1 and not node.keywords)
        self.look(ast.ClassDef, lambda node: all(isinstance(part, (ast.FunctionDef, ast.Pass)) for part in node.body))

    def test_imports_are_of_the_package_by_full_name(self):
        self.look(ast.ImportFrom, lambda node: node.level == 0 and re.match(r"sluice\.[a-z]", node.module))
        self.look(ast.alias, lambda node: node.name != "*")

    def test_names(self):
        for name, tree in self.trees.items():
            classes = [node for node in ast.walk(tree) if isinstance(node, ast.ClassDef)]
            methods = [part.name for one in classes for part in one.body if isinstance(part, ast.FunctionDef)]
            for bound in bound_names(tree):
                with self.subTest(file=name, bound=bound):
                    self.assertTrue(bound in METHODS_WITH_UNDERSCORES or re.match(r"[A-Za-z][A-Za-z0-9_]*$", bound))
                    self.assertNotIn(bound, NOT_USED)
                    # Only a method may be called like one of Python's own names.
                    self.assertTrue(bound in methods or not hasattr(builtins, bound))

    def test_only_some_of_pythons_own_names(self):
        self.look(ast.Name, lambda node: node.id in BUILTINS or not hasattr(builtins, node.id))
        self.look(ast.Attribute, lambda node: node.attr not in NOT_USED)
        self.look(ast.Attribute, lambda node: node.attr in METHODS_WITH_UNDERSCORES or node.attr[0] != "_")

    def test_is_stands_beside_none_true_and_false(self):
        def keeps(node):
            signs = [isinstance(sign, (ast.Is, ast.IsNot)) for sign in node.ops]
            plain = [isinstance(one, ast.Constant) and one.value in (None, True, False) for one in node.comparators]
            return all(beside or not sign for sign, beside in zip(signs, plain))

        self.look(ast.Compare, keeps)

    def test_the_top_of_a_file(self):
        for name, tree in self.trees.items():
            functions = []
            for place, node in enumerate(tree.body):
                with self.subTest(file=name, line=node.lineno):
                    if place == 0:
                        self.assertIsNotNone(ast.get_docstring(tree))
                    elif isinstance(node, ast.Assign):
                        self.assertIsInstance(node.targets[0], ast.Name)
                        self.assertTrue(is_plain(node.value, functions))
                    elif isinstance(node, ast.FunctionDef):
                        functions.append(node.name)
                    else:
                        self.assertIsInstance(node, (ast.ImportFrom, ast.ClassDef))
            names = defined_at_top(tree) + imported(tree)
            self.assertEqual(sorted(names), sorted(set(names)), name)

    def test_lists_and_dicts_of_the_top_are_only_read(self):
        for name, tree in self.trees.items():
            tops = [node for node in tree.body if isinstance(node, ast.Assign)]
            kept = [node.targets[0].id for node in tops if isinstance(node.value, (ast.List, ast.Dict))]
            for top in tops:
                inner = [part for part in ast.walk(top.value) if isinstance(part, (ast.List, ast.Dict))]
                self.assertLessEqual(len(inner), 1 if top.targets[0].id in kept else 0)
            for node in ast.walk(tree):
                if isinstance(node, ast.Name) and isinstance(node.ctx, ast.Load) and node.id in kept:
                    over = self.over[node]
                    with self.subTest(file=name, line=node.lineno):
                        self.assertTrue(
                            isinstance(over, ast.Subscript) and isinstance(over.ctx, ast.Load)
                            or isinstance(over, ast.Attribute) and over.attr in READERS
                            or isinstance(over, (ast.Compare, ast.For, ast.comprehension))
                            or called(over) in WALKERS | {"len"}
                        )

    def test_parameters_and_locals_are_not_called_like_classes_or_imports(self):
        for name, tree in self.trees.items():
            taken = imported(tree) + [node.name for node in tree.body if isinstance(node, ast.ClassDef)]
            for node in ast.walk(tree):
                if isinstance(node, ast.arg) or isinstance(node, ast.Name) and isinstance(node.ctx, ast.Store):
                    with self.subTest(file=name, line=node.lineno):
                        self.assertNotIn(node.arg if isinstance(node, ast.arg) else node.id, taken)

    def test_imports_are_from_where_a_name_is_defined_and_never_round(self):
        draws = {}
        for name, tree in self.trees.items():
            rows = [node for node in tree.body if isinstance(node, ast.ImportFrom)]
            draws[name] = [node.module.split(".")[1] + ".py" for node in rows]
            for node, source in zip(rows, draws[name]):
                for part in node.names:
                    self.assertIn(part.name, defined_at_top(self.trees[source]), name)
                    self.assertIsNone(part.asname)
        while draws:
            free = [name for name in draws if not draws[name]]
            self.assertTrue(free, draws)
            draws = {name: [one for one in drawn if one not in free] for name, drawn in draws.items() if drawn}

    def test_names_that_are_not_used(self):
        self.look(ast.Name, lambda node: node.id not in NOT_NAMES | NOT_USED)

    def test_no_name_is_a_method_and_a_value(self):
        methods = [part.name for one in self.classes.values() for part in one.body if isinstance(part, ast.FunctionDef)]
        for one in self.classes.values():
            own = [part.name for part in one.body if isinstance(part, ast.FunctionDef)]
            self.assertEqual(len(own), len(set(own)), one.name)
        self.look(ast.Attribute, lambda node: isinstance(node.ctx, ast.Load) or node.attr not in methods)
        pythons = {name for kind in (str, int, list, dict, set, bytes) for name in vars(kind)}
        self.assertEqual([name for name in methods if name in pythons - METHODS_WITH_UNDERSCORES], [])
        self.look(ast.Attribute, lambda node: isinstance(node.ctx, ast.Load) or node.attr not in pythons)

    def test_classes_are_called_or_stand_as_bases_or_by_errors(self):
        def keeps(node):
            over = self.over[node]
            return (
                isinstance(over, (ast.ClassDef, ast.ExceptHandler)) or called(over) == node.id
                or isinstance(over, ast.Attribute) and over.attr == "__init__"
                or called(over) == "isinstance" or isinstance(over, ast.Tuple) and (
                    isinstance(self.over[over], ast.ExceptHandler) or called(self.over[over]) == "isinstance")
            )

        self.look(ast.Name, lambda node: node.id not in self.classes or keeps(node))

    def test_errors_are_taken_by_name_and_made_on_the_spot(self):
        taken = set(self.classes) | {"KeyError", "ZeroDivisionError"}
        self.look(ast.ExceptHandler, lambda node: isinstance(node.type, ast.Name) and node.type.id in taken)
        self.look(ast.Raise, lambda node: called(node.exc) in self.classes)

    def test_no_annotations(self):
        self.look(ast.AnnAssign, lambda node: False)
        self.look(ast.arg, lambda node: node.annotation is None)
        self.look(ast.FunctionDef, lambda node: node.returns is None)

    def test_keywords_of_pythons_own_names(self):
        def keeps(node):
            names = {part.arg for part in node.keywords}
            if called(node) in BUILTINS | set(self.classes):
                return names <= KEYWORDS.get(called(node), set())
            return not names or not (isinstance(node.func, ast.Attribute) and node.func.attr in OWN_METHODS_OF_VALUES)

        self.look(ast.Call, keeps)

    def test_pythons_own_names_are_called_and_not_kept(self):
        def keeps(node):
            over = self.over[node]
            beside = isinstance(over, (ast.ClassDef, ast.ExceptHandler, ast.keyword)) or called(over) == "isinstance"
            return called(over) == node.id or beside

        self.look(ast.Name, lambda node: node.id not in BUILTINS or keeps(node))

    def test_walked_at_once(self):
        def keeps(node):
            method = node.func.attr if isinstance(node.func, ast.Attribute) else None
            if called(node) not in WALKED and method not in WALKED_METHODS:
                return True
            over = self.over[node]
            if isinstance(over, (ast.For, ast.comprehension)):
                return over.iter is node
            if isinstance(over, ast.Call) and isinstance(over.func, ast.Attribute) and over.func.attr == "join":
                return isinstance(over.func.value, ast.Constant)
            return called(over) in WALKERS and over.args[0] is node

        self.look(ast.Call, keeps)

    def test_sets_are_not_kept(self):
        def keeps(node):
            over = self.over[node]
            return called(node) != "set" or isinstance(over, ast.Compare) or called(over) in ("sorted", "len")

        self.look(ast.Set, lambda node: False)
        self.look(ast.Call, keeps)

    def test_methods_are_called_where_they_stand(self):
        own = {part.name for one in self.classes.values() for part in one.body if isinstance(part, ast.FunctionDef)}
        values = {node.attr for tree in self.trees.values() for node in ast.walk(tree)
                  if isinstance(node, ast.Attribute) and isinstance(node.ctx, ast.Store)}

        def keeps(node):
            over = self.over[node]
            if isinstance(over, ast.Call) and over.func is node:
                return node.attr in OWN_METHODS_OF_VALUES | own
            return node.attr in values

        self.look(ast.Attribute, keeps)

    def test_numbers_and_texts(self):
        def has_written_exponent(node):
            return isinstance(node.right, ast.Constant) and 0 <= node.right.value <= 64

        self.look(ast.BinOp, lambda node: not isinstance(node.op, ast.Pow) or has_written_exponent(node))
        self.look(ast.Constant, lambda node: not isinstance(node.value, str) or "%" not in node.value)
        self.look(ast.FormattedValue, lambda node: isinstance(node.value, ast.Name) and node.format_spec is None)
        for path in self.files:
            self.assertNotRegex(path.read_text(), r"\\[^nt\\'\"]", path.name)

    def test_making_an_object_gives_back_nothing(self):
        for one in self.classes.values():
            for part in one.body:
                if isinstance(part, ast.FunctionDef) and part.name == "__init__":
                    self.assertFalse([node for node in ast.walk(part) if isinstance(node, ast.Return)], one.name)


if __name__ == "__main__":
    unittest.main()
