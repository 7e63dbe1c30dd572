"""The part of Python that the package keeps to (L1 to L28), as far as its text shows it."""

import ast
import builtins
import pathlib
import re
import unittest

PACKAGE = pathlib.Path(__file__).resolve().parent.parent / "bidmover"

OWN_NAMES = set("""
    len range enumerate zip min max sum abs sorted reversed int str bool list tuple dict set frozenset isinstance
    ord repr any all divmod Exception ValueError TypeError KeyError IndexError LookupError ZeroDivisionError
    ArithmeticError OverflowError RuntimeError NotImplementedError AttributeError StopIteration
""".split())
OWN_METHODS = set("""
    append clear copy count endswith extend find get index insert isalnum isalpha isdigit islower isspace isupper
    items join keys ljust lower lstrip partition pop remove replace reverse rfind rjust rpartition rsplit rstrip
    setdefault split splitlines startswith strip update upper values zfill bit_length
""".split())
SPECIAL_METHODS = {"__init__", "__eq__", "__repr__", "__str__", "__len__"}
BANNED_NAMES = set("register mro elements open input version_info with_traceback add_note format format_map".split())
BANNED_WORDS = re.compile(
    r"\b(type|typing|typing_extensions|enum|Enum|IntEnum|StrEnum|Flag|IntFlag|Generic|Protocol|ABC|ABCMeta|namedtuple"
    r"|NamedTuple|TypedDict|TYPE_CHECKING|abstractmethod)\b|dataclass|overload|contextmanager"
)
STATEMENTS = (
    ast.Assign, ast.AugAssign, ast.If, ast.While, ast.For, ast.Return, ast.Break, ast.Continue, ast.Pass, ast.Raise,
    ast.Try, ast.Expr, ast.FunctionDef, ast.ClassDef, ast.ImportFrom,
)
WALKED = {"zip", "enumerate", "reversed", "range", "items", "keys", "values"}
WALKERS = {"list", "tuple", "dict", "sorted", "sum", "any", "all", "enumerate", "zip", "min", "max", "join"}
EXPRESSIONS = (
    ast.Constant, ast.List, ast.Tuple, ast.Dict, ast.Set, ast.BinOp, ast.UnaryOp, ast.Compare, ast.BoolOp, ast.IfExp,
    ast.Call, ast.Attribute, ast.Subscript, ast.Slice, ast.ListComp, ast.JoinedStr, ast.FormattedValue, ast.Name,
    ast.Lambda,
)


def modules():
    return sorted(PACKAGE.glob("*.py"))


def tree_of(path):
    return ast.parse(path.read_text(encoding="utf-8"))


def each_node():
    """Each node of the package, with where it stands as the words of a failed test."""
    for path in modules():
        for node in ast.walk(tree_of(path)):
            yield f"{path.name}:{getattr(node, 'lineno', 0)}", node


def each_child():
    """Each node of the package that stands within another, with that one and where it stands."""
    for where, node in each_node():
        for child in ast.iter_child_nodes(node):
            yield where, node, child


def called(node):
    """The name or method that a call calls, None of any other node."""
    if not isinstance(node, ast.Call):
        return None
    return node.func.attr if isinstance(node.func, ast.Attribute) else getattr(node.func, "id", None)


def names_at_the_top(tree):
    names = []
    for node in tree.body:
        if isinstance(node, (ast.FunctionDef, ast.ClassDef)):
            names.append(node.name)
        elif isinstance(node, ast.Assign):
            names += [target.id for target in node.targets]
    return names


def drawn_from(tree):
    return [node.module for node in tree.body if isinstance(node, ast.ImportFrom)]


class LanguageTest(unittest.TestCase):
    def test_files(self):
        for path in PACKAGE.iterdir():
            if path.name != "__pycache__":
                self.assertRegex(path.name, r"^([a-z][a-z0-9_]*|__init__)\.py$")
                self.assertNotIn(path.stem, dir(builtins))
        self.assertTrue((PACKAGE / "__init__.py").is_file())

    def test_signs_and_sizes(self):
        for path in modules():
            text = path.read_text(encoding="utf-8")
            with self.subTest(path.name):
                self.assertRegex(text, r"\A[ -~\n]*\Z")
                self.assertIsNone(BANNED_WORDS.search(text))
                self.assertLessEqual(len(text.splitlines()), 400)
                self.assertLessEqual(max(len(line) for line in text.splitlines()), 120)

    def test_functions_and_classes(self):
        for where, node in each_node():
            if isinstance(node, (ast.FunctionDef, ast.ClassDef)):
                self.assertEqual(node.decorator_list, [], where)
                self.assertLessEqual(len(getattr(node, "bases", [])), 1, where)
            if isinstance(node, ast.FunctionDef):
                self.assertLessEqual(node.end_lineno - node.lineno + 1, 40, where)
            if isinstance(node, ast.ClassDef):
                for part in node.body:
                    self.assertIsInstance(part, (ast.FunctionDef, ast.Pass), where)
            if isinstance(node, ast.arguments):
                stars = (node.vararg, node.kwarg, node.kwonlyargs, node.posonlyargs)
                self.assertEqual(stars, (None, None, [], []), where)

    def test_the_top_of_a_module(self):
        for path in modules():
            tree = tree_of(path)
            with self.subTest(path.name):
                self.assertIsNotNone(ast.get_docstring(tree))
                for node in tree.body[1:]:
                    self.assertIsInstance(node, (ast.ImportFrom, ast.FunctionDef, ast.ClassDef, ast.Assign))
                    if isinstance(node, ast.Assign):
                        ast.literal_eval(node.value)
                names = names_at_the_top(tree)
                self.assertEqual(len(names), len(set(names)))

    def test_imports_come_from_the_file_that_defines_the_name(self):
        for path in modules():
            for node in ast.walk(tree_of(path)):
                if isinstance(node, ast.ImportFrom):
                    with self.subTest(file=path.name, line=node.lineno):
                        self.assertEqual(node.level, 0)
                        self.assertRegex(node.module, r"^bidmover\.[a-z]+$")
                        source = tree_of(PACKAGE / (node.module.split(".")[1] + ".py"))
                        for alias in node.names:
                            self.assertIn(alias.name, names_at_the_top(source))

    def test_no_two_files_draw_from_one_another(self):
        left = {"bidmover." + path.stem: drawn_from(tree_of(path)) for path in modules()}
        while left:
            free = [name for name in left if not set(left[name]) & set(left)]
            self.assertTrue(free, f"these draw from one another: {sorted(left)}")
            for name in free:
                left.pop(name)

    def test_statements_and_expressions(self):
        for where, node in each_node():
            if isinstance(node, ast.stmt):
                self.assertIsInstance(node, STATEMENTS, where)
            if isinstance(node, ast.expr):
                self.assertIsInstance(node, EXPRESSIONS, where)
            if isinstance(node, (ast.For, ast.While)):
                self.assertEqual(node.orelse, [], where)
            if isinstance(node, ast.Try):
                self.assertEqual(node.finalbody, [], where)
            if isinstance(node, ast.Assign):
                self.assertEqual(len(node.targets), 1, where)
            self.assertNotIsInstance(node, (ast.Div, ast.MatMult, ast.Starred), where)

    def test_only_docstrings_and_calls_stand_by_themselves(self):
        for path in modules():
            tree = tree_of(path)
            for node in ast.walk(tree):
                if isinstance(node, ast.Expr) and node is not tree.body[0]:
                    with self.subTest(file=path.name, line=node.lineno):
                        self.assertIsInstance(node.value, ast.Call)

    def test_values(self):
        for where, node in each_node():
            if isinstance(node, ast.Constant):
                self.assertIn(type(node.value), (int, str, bool, type(None)), where)
                self.assertNotIn("%", str(node.value), where)
            if isinstance(node, ast.FormattedValue):
                self.assertIsInstance(node.value, ast.Name, where)
                self.assertIn(node.conversion, (-1, ord("r")), where)
            if isinstance(node, ast.ListComp):
                self.assertEqual(len(node.generators), 1, where)
                self.assertLessEqual(len(node.generators[0].ifs), 1, where)
            if isinstance(node, ast.Compare) and isinstance(node.ops[0], (ast.Is, ast.IsNot)):
                self.assertIn(ast.unparse(node.comparators[0]), ("None", "True", "False"), where)

    def test_names(self):
        for where, node in each_node():
            names = [getattr(node, field, None) for field in ("id", "attr", "arg", "name")]
            for name in [name for name in names if isinstance(name, str)]:
                self.assertNotIn(name, BANNED_NAMES, where)
                if name not in SPECIAL_METHODS:
                    self.assertRegex(name, r"^[A-Za-z][A-Za-z0-9_]*$", where)

    def test_pythons_own_names(self):
        for where, node in each_node():
            if isinstance(node, ast.Name) and hasattr(builtins, node.id):
                self.assertIn(node.id, OWN_NAMES, where)
                self.assertIsInstance(node.ctx, ast.Load, where)
            if isinstance(node, ast.arg):
                self.assertFalse(hasattr(builtins, node.arg), where)

    def test_methods(self):
        defined = set()
        for path in modules():
            for node in ast.walk(tree_of(path)):
                if isinstance(node, ast.FunctionDef):
                    defined.add(node.name)
        for where, node in each_node():
            if isinstance(node, ast.Call) and isinstance(node.func, ast.Attribute):
                self.assertIn(node.func.attr, defined | OWN_METHODS, where)

    def test_no_name_is_a_method_and_a_value(self):
        methods, values = set(), set()
        for path in modules():
            for node in ast.walk(tree_of(path)):
                if isinstance(node, ast.ClassDef):
                    methods |= {part.name for part in node.body if isinstance(part, ast.FunctionDef)}
                if isinstance(node, ast.Attribute) and isinstance(node.ctx, ast.Store):
                    values.add(node.attr)
        self.assertEqual(methods & values, set())

    def test_no_local_is_called_like_a_class_or_an_import(self):
        for path in modules():
            tree = tree_of(path)
            taken = {node.name for node in tree.body if isinstance(node, ast.ClassDef)}
            for node in tree.body:
                if isinstance(node, ast.ImportFrom):
                    taken |= {alias.name for alias in node.names}
            for function in [node for node in ast.walk(tree) if isinstance(node, ast.FunctionDef)]:
                parts = list(ast.walk(function))
                names = {part.arg for part in parts if isinstance(part, ast.arg)}
                names |= {part.id for part in parts if isinstance(part, ast.Name) and isinstance(part.ctx, ast.Store)}
                with self.subTest(file=path.name, function=function.name):
                    self.assertEqual(names & taken, set())

    def test_an_error_is_made_where_it_is_raised(self):
        errors = names_at_the_top(tree_of(PACKAGE / "errors.py"))
        for where, node in each_node():
            if isinstance(node, ast.Raise):
                self.assertIn(called(node.exc), errors, where)

    def test_what_is_walked_is_walked_at_once(self):
        for where, node, child in each_child():
            if called(child) in WALKED:
                walks = isinstance(node, (ast.For, ast.comprehension)) and node.iter is child
                self.assertTrue(walks or called(node) in WALKERS, where)

    def test_sets_are_not_kept(self):
        for where, node, child in each_child():
            if called(child) in ("set", "frozenset") or isinstance(child, ast.Set):
                fleeting = isinstance(node, (ast.Compare, ast.BinOp)) or called(node) in ("len", "sorted")
                self.assertTrue(fleeting, where)


if __name__ == "__main__":
    unittest.main()
