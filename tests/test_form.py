"""The form of the package's code: some of the rules of LANGUAGE.md, not all that a walk over it could see.

Point 1 too: what imports nothing but itself has no clock, chance or files.
"""

import ast
import builtins
import pathlib
import re
import unittest

PACKAGE = pathlib.Path(__file__).resolve().parent.parent / "treetrim"
FILES = sorted(path for path in PACKAGE.rglob("*") if "__pycache__" not in path.parts)

NODES = """
Module FunctionDef ClassDef arguments arg Assign AugAssign If While For Return Break Continue Pass Raise
Try ExceptHandler Expr Call keyword Name Load Store Constant List Tuple Dict ListComp comprehension
BinOp Add Sub Mult FloorDiv Mod Pow BitAnd BitOr BitXor LShift RShift UnaryOp USub UAdd Invert Not BoolOp And Or
Compare Eq NotEq Lt LtE Gt GtE Is IsNot In NotIn IfExp Attribute Subscript Slice JoinedStr FormattedValue
Lambda ImportFrom alias
""".split()
BUILT_IN = """
len range enumerate zip min max sum abs sorted reversed int str bool list tuple dict set frozenset isinstance
ord repr any all divmod Exception ValueError TypeError KeyError IndexError LookupError ZeroDivisionError
ArithmeticError OverflowError RuntimeError NotImplementedError AttributeError StopIteration
""".split()
METHODS = """
append clear copy count endswith extend find get index insert isalnum isalpha isdigit islower isspace isupper
items join keys ljust lower lstrip partition pop remove replace reverse rfind rjust rpartition rsplit rstrip
setdefault split splitlines startswith strip update upper values zfill bit_length
""".split()
# What L23 lets be walked on the spot alone, and the names that may walk it.
WALKED = ["zip", "enumerate", "reversed", "range", "items", "keys", "values"]
WALKERS = ["list", "tuple", "dict", "sorted", "sum", "any", "all", "enumerate", "zip"]
WORDS = re.compile(
    r"\b(type|typing|typing_extensions|enum|Enum|IntEnum|StrEnum|Flag|IntFlag|Generic|Protocol|ABC|ABCMeta"
    r"|namedtuple|NamedTuple|TypedDict|TYPE_CHECKING|abstractmethod)\b|dataclass|overload|contextmanager"
)


def trees():
    return [(path, ast.parse(path.read_text("utf-8"))) for path in FILES]


def nodes(*kinds):
    return [(path.name, node) for path, tree in trees() for node in ast.walk(tree) if isinstance(node, kinds)]


def called(node):
    return node.func.attr if isinstance(node.func, ast.Attribute) else node.func.id


def top_names(tree):
    names = []
    for node in tree.body:
        if isinstance(node, (ast.FunctionDef, ast.ClassDef)):
            names.append(node.name)
        elif isinstance(node, ast.Assign):
            names += [target.id for target in node.targets]
    return names


def drawn_from():
    return {
        f"treetrim.{path.stem}": {node.module for node in tree.body if isinstance(node, ast.ImportFrom)}
        for path, tree in trees()
    }


class Files(unittest.TestCase):
    def test_nothing_but_plain_files(self):
        self.assertIn(PACKAGE / "__init__.py", FILES)
        for path in FILES:
            self.assertTrue(path.is_file(), path)
            self.assertRegex(path.name, r"^([a-z][a-z0-9_]*|__init__)\.py$")

    def test_sizes_signs_and_words(self):
        for path in FILES:
            text = path.read_text("utf-8")
            self.assertRegex(text, r"\A[ -~\n]*\Z", path)
            self.assertIsNone(WORDS.search(text), path)
            self.assertLessEqual(len(text.splitlines()), 400, path)
            self.assertLessEqual(max(len(line) for line in text.splitlines()), 120, path)

    def test_functions_are_short(self):
        for name, node in nodes(ast.FunctionDef):
            self.assertLessEqual(node.end_lineno - node.lineno + 1, 40, (name, node.name))


class Imports(unittest.TestCase):
    def test_only_from_the_very_file_that_defines_the_name(self):
        defined = {f"treetrim.{path.stem}": top_names(tree) for path, tree in trees()}
        for name, node in nodes(ast.ImportFrom):
            self.assertEqual(node.level, 0, name)
            for alias in node.names:
                self.assertIn(alias.name, defined.get(node.module, []), name)

    def test_no_two_files_draw_from_one_another(self):
        left = drawn_from()
        while left:
            free = [name for name in left if not left[name] & set(left)]
            self.assertNotEqual(free, [], left)
            for name in free:
                del left[name]

    def test_the_package_itself_draws_from_nothing(self):
        self.assertEqual(drawn_from()["treetrim.__init__"], set())


class Code(unittest.TestCase):
    def test_only_the_statements_and_expressions_of_the_small_part(self):
        for name, node in nodes(ast.AST):
            self.assertIn(type(node).__name__, NODES, (name, getattr(node, "lineno", None)))

    def test_one_target_and_no_else_behind_a_loop(self):
        for name, node in nodes(ast.Assign):
            self.assertEqual(len(node.targets), 1, (name, node.lineno))
            self.assertNotIsInstance(node.targets[0], (ast.Tuple, ast.List), (name, node.lineno))
        for name, node in nodes(ast.For, ast.While):
            self.assertEqual(node.orelse, [], (name, node.lineno))

    def test_an_expression_by_itself_is_a_call_or_the_text_of_a_file(self):
        own = [ast.dump(tree.body[0], include_attributes=True) for path, tree in trees()]
        for name, node in nodes(ast.Expr):
            if not isinstance(node.value, ast.Call):
                self.assertIn(ast.dump(node, include_attributes=True), own, (name, node.lineno))

    def test_names(self):
        for name, node in nodes(ast.Name):
            self.assertRegex(node.id, r"^[A-Za-z]\w*$", (name, node.lineno))
            if hasattr(builtins, node.id):
                self.assertIn(node.id, BUILT_IN, (name, node.lineno))
                self.assertIsInstance(node.ctx, ast.Load, (name, node.lineno))
        for name, node in nodes(ast.arg):
            self.assertFalse(hasattr(builtins, node.arg), (name, node.lineno))
            self.assertIsNone(node.annotation, (name, node.lineno))

    def test_no_local_is_called_like_a_class_or_an_import_of_its_file(self):
        for path, tree in trees():
            taken = [node.name for node in tree.body if isinstance(node, ast.ClassDef)]
            for node in ast.walk(tree):
                if isinstance(node, ast.ImportFrom):
                    taken += [alias.asname or alias.name for alias in node.names]
            for node in ast.walk(tree):
                if isinstance(node, ast.arg):
                    self.assertNotIn(node.arg, taken, path.name)
                if isinstance(node, ast.Name) and isinstance(node.ctx, ast.Store):
                    self.assertNotIn(node.id, taken, path.name)

    def test_methods(self):
        own = [node.name for name, node in nodes(ast.FunctionDef)]
        for name, node in nodes(ast.Call):
            if isinstance(node.func, ast.Attribute):
                self.assertIn(node.func.attr, METHODS + own, (name, node.lineno))

    def test_values(self):
        for name, node in nodes(ast.Constant):
            self.assertIn(type(node.value), (int, str, bool, type(None)), (name, node.lineno))
            if isinstance(node.value, str):
                self.assertNotIn("%", node.value, (name, node.lineno))

    def test_what_is_walked_is_walked_on_the_spot(self):
        for path, tree in trees():
            inside = list(ast.walk(tree))
            walks = [node.iter for node in inside if isinstance(node, (ast.For, ast.comprehension))]
            calls = [node for node in inside if isinstance(node, ast.Call)]
            for node in calls:
                if called(node) in WALKERS or called(node) in ("min", "max") and len(node.args) == 1:
                    walks += node.args[:1]
            for node in calls:
                if called(node) in WALKED:
                    self.assertIn(node, walks, (path.name, node.lineno))

    def test_a_name_is_bound_once_at_the_top_of_a_file(self):
        for path, tree in trees():
            self.assertEqual(len(top_names(tree)), len(set(top_names(tree))), path.name)

    def test_no_set(self):
        for name, node in nodes(ast.Name):
            self.assertNotIn(node.id, ("set", "frozenset"), (name, node.lineno))

    def test_is_stands_beside_none_true_and_false_alone(self):
        for name, node in nodes(ast.Compare):
            if any(isinstance(sign, (ast.Is, ast.IsNot)) for sign in node.ops):
                self.assertIsInstance(node.comparators[0], ast.Constant, (name, node.lineno))


if __name__ == "__main__":
    unittest.main()
