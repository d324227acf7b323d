"""The rules of LANGUAGE.md that can be seen in the package's files without running them."""

import ast
import builtins
import pathlib
import re
import unittest

PACKAGE = pathlib.Path(__file__).resolve().parent.parent / "slidingscale"

ALLOWED_NAMES = set(
    "len range enumerate zip min max sum abs sorted reversed int str bool list tuple dict set frozenset isinstance "
    "ord repr any all divmod Exception ValueError TypeError KeyError IndexError LookupError ZeroDivisionError "
    "ArithmeticError OverflowError RuntimeError NotImplementedError AttributeError StopIteration".split())
ALLOWED_METHODS = set(
    "append clear copy count endswith extend find get index insert isalnum isalpha isdigit islower isspace isupper "
    "items join keys ljust lower lstrip partition pop remove replace reverse rfind rjust rpartition rsplit rstrip "
    "setdefault split splitlines startswith strip update upper values zfill bit_length".split())
WORDS_LEFT_OUT = re.compile(
    r"\b(type|typing|typing_extensions|enum|Enum|IntEnum|StrEnum|Flag|IntFlag|Generic|Protocol|ABC|ABCMeta|namedtuple"
    r"|NamedTuple|TypedDict|TYPE_CHECKING|abstractmethod)\b|dataclass|overload|contextmanager")
NAMES_LEFT_OUT = set(
    "register mro elements open input version_info with_traceback add_note format format_map".split())
NODES_LEFT_OUT = (
    ast.With, ast.Match, ast.Delete, ast.Global, ast.Nonlocal, ast.Assert, ast.Yield, ast.YieldFrom, ast.Await,
    ast.AsyncFunctionDef, ast.AsyncFor, ast.AsyncWith, ast.SetComp, ast.DictComp, ast.GeneratorExp, ast.NamedExpr,
    ast.Starred, ast.Div, ast.Import,
)
VALUES_LEFT_OUT = set(
    "items keys values pop update append clear extend insert remove reverse setdefault sort args encode".split())
TOP_NODES = (ast.FunctionDef, ast.ClassDef, ast.ImportFrom, ast.Assign)


def source_files():
    return sorted(PACKAGE.rglob("*.py"))


def trees():
    return [(path.name, ast.parse(path.read_text("utf-8"))) for path in source_files()]


def every_node():
    return [(name, node) for name, tree in trees() for node in ast.walk(tree)]


def where(name, node):
    return name, getattr(node, "lineno", 0)


class Files(unittest.TestCase):
    def test_plain_files_alone(self):
        for path in PACKAGE.rglob("*"):
            if "__pycache__" not in path.parts:
                self.assertRegex(path.name, r"^([a-z][a-z0-9_]*|__init__)\.py$")
        self.assertTrue((PACKAGE / "__init__.py").is_file())

    def test_signs_and_sizes(self):
        for path in source_files():
            text = path.read_bytes().decode("ascii")
            rows = text.split("\n")
            self.assertLessEqual(len(rows), 401, path.name)
            for number, row in enumerate(rows, 1):
                self.assertRegex(row, r"^[ -~]{0,120}$", (path.name, number))
                self.assertIsNone(WORDS_LEFT_OUT.search(row), (path.name, number))

    def test_functions_are_short(self):
        for name, node in every_node():
            if isinstance(node, ast.FunctionDef):
                self.assertLessEqual(node.end_lineno - node.lineno + 1, 40, where(name, node))


class Forms(unittest.TestCase):
    def test_the_top_of_a_file(self):
        for name, tree in trees():
            self.assertIsNotNone(ast.get_docstring(tree), name)
            for node in tree.body[1:]:
                self.assertIsInstance(node, TOP_NODES, where(name, node))

    def test_statements_and_expressions(self):
        for name, node in every_node():
            self.assertNotIsInstance(node, NODES_LEFT_OUT, where(name, node))
            if isinstance(node, (ast.For, ast.While)):
                self.assertEqual(node.orelse, [], where(name, node))
            if isinstance(node, ast.Assign):
                self.assertEqual(len(node.targets), 1, where(name, node))
                self.assertNotIsInstance(node.targets[0], (ast.Tuple, ast.List), where(name, node))
            if isinstance(node, ast.Constant):
                self.assertNotIsInstance(node.value, (float, complex, bytes), where(name, node))
                self.assertNotIn("%", str(node.value), where(name, node))
            if isinstance(node, ast.ListComp):
                self.assertEqual(len(node.generators), 1, where(name, node))
                self.assertLessEqual(len(node.generators[0].ifs), 1, where(name, node))

    def test_imports_are_the_packages_own_without_circles(self):
        drawn = {}
        for name, node in every_node():
            if isinstance(node, ast.ImportFrom):
                self.assertEqual(node.level, 0, where(name, node))
                self.assertRegex(node.module, r"^slidingscale\.[a-z]", where(name, node))
                drawn.setdefault(name, set()).add(node.module.split(".")[1] + ".py")
        seen = set()
        while any(name not in seen for name in drawn):
            free = [name for name in drawn if name not in seen and not (drawn[name] & set(drawn)) - seen]
            self.assertTrue(free, "files draw from one another")
            seen.update(free)

    def test_names(self):
        for name, node in every_node():
            if isinstance(node, ast.Name):
                self.assertRegex(node.id, r"^[A-Za-z]", where(name, node))
                self.assertNotIn(node.id, NAMES_LEFT_OUT, where(name, node))
                if hasattr(builtins, node.id):
                    self.assertIn(node.id, ALLOWED_NAMES, where(name, node))
                    self.assertIsInstance(node.ctx, ast.Load, where(name, node))
            if isinstance(node, ast.arg):
                self.assertFalse(hasattr(builtins, node.arg), where(name, node))
                self.assertIsNone(node.annotation, where(name, node))

    def test_methods_of_pythons_own_values(self):
        for name, node in every_node():
            if isinstance(node, ast.Attribute):
                self.assertNotIn(node.attr, NAMES_LEFT_OUT, where(name, node))
            if isinstance(node, ast.Call) and isinstance(node.func, ast.Attribute):
                self.assertIn(node.func.attr, ALLOWED_METHODS, where(name, node))

    def test_functions_have_plain_parameters_and_no_decorator(self):
        for name, node in every_node():
            if isinstance(node, (ast.FunctionDef, ast.ClassDef)):
                self.assertEqual(node.decorator_list, [], where(name, node))
            if isinstance(node, ast.arguments):
                self.assertEqual((node.vararg, node.kwarg, node.kwonlyargs, node.posonlyargs), (None, None, [], []))


class NamesOverall(unittest.TestCase):
    def test_each_name_is_bound_once_at_a_files_top(self):
        for name, tree in trees():
            bound = []
            for node in tree.body[1:]:
                if isinstance(node, ast.ImportFrom):
                    bound.extend(alias.asname or alias.name for alias in node.names)
                elif isinstance(node, ast.Assign):
                    bound.append(node.targets[0].id)
                else:
                    bound.append(node.name)
            self.assertEqual(len(bound), len(set(bound)), name)

    def test_lists_and_dicts_of_a_files_top_are_only_read_by_an_index(self):
        for name, tree in trees():
            kept = [node.targets[0].id for node in tree.body if isinstance(node, ast.Assign)
                    and isinstance(node.value, (ast.List, ast.Dict, ast.Tuple))]
            read = [node.value for node in ast.walk(tree)
                    if isinstance(node, ast.Subscript) and isinstance(node.ctx, ast.Load)]
            for node in ast.walk(tree):
                if isinstance(node, ast.Name) and node.id in kept and isinstance(node.ctx, ast.Load):
                    self.assertIn(node, read, where(name, node))

    def test_parameters_and_locals_are_not_called_like_a_class_or_an_import(self):
        for name, tree in trees():
            taken = {node.name for node in tree.body if isinstance(node, ast.ClassDef)}
            for node in tree.body:
                if isinstance(node, ast.ImportFrom):
                    taken.update(alias.name for alias in node.names)
            for node in ast.walk(tree):
                if isinstance(node, ast.arg):
                    self.assertNotIn(node.arg, taken, where(name, node))
                if isinstance(node, ast.Name) and isinstance(node.ctx, ast.Store):
                    self.assertNotIn(node.id, taken, where(name, node))

    def test_no_name_is_both_a_method_and_a_value(self):
        methods = set()
        stored = set()
        for name, node in every_node():
            if isinstance(node, ast.ClassDef):
                methods.update(inner.name for inner in node.body if isinstance(inner, ast.FunctionDef))
            if isinstance(node, ast.Attribute) and isinstance(node.ctx, ast.Store):
                stored.add(node.attr)
        self.assertEqual(methods & stored, set())
        self.assertEqual(stored & VALUES_LEFT_OUT, set())

    def test_is_stands_beside_none_true_and_false_alone(self):
        for name, node in every_node():
            if isinstance(node, ast.Compare) and any(isinstance(sign, (ast.Is, ast.IsNot)) for sign in node.ops):
                self.assertIsInstance(node.comparators[0], ast.Constant, where(name, node))
                self.assertIn(node.comparators[0].value, (None, True, False), where(name, node))


if __name__ == "__main__":
    unittest.main()
