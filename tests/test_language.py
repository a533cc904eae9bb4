"""The package's files keep to the part of Python that the program is written in, as far as this can be seen."""

import ast
import builtins
import pathlib
import re
import unittest

PACKAGE = pathlib.Path(__file__).resolve().parent.parent / "shieldwords"
FILES = sorted(PACKAGE.rglob("*.py"))

STATEMENTS = (
    ast.Assign, ast.AugAssign, ast.If, ast.While, ast.For, ast.Return, ast.Break, ast.Continue, ast.Pass, ast.Raise,
    ast.Try, ast.Expr, ast.FunctionDef, ast.ClassDef, ast.ImportFrom,
)
EXPRESSIONS = (
    ast.Constant, ast.List, ast.Tuple, ast.Dict, ast.BinOp, ast.UnaryOp, ast.Compare, ast.BoolOp, ast.IfExp, ast.Call,
    ast.Attribute, ast.Subscript, ast.Slice, ast.ListComp, ast.JoinedStr, ast.FormattedValue, ast.Lambda, ast.Name,
)
BUILT_IN = set(
    "len range enumerate zip min max sum abs sorted reversed int str bool list tuple dict set frozenset isinstance ord "
    "repr any all divmod Exception ValueError TypeError KeyError IndexError LookupError ZeroDivisionError "
    "ArithmeticError OverflowError RuntimeError NotImplementedError".split()
)
METHODS = set(
    "append clear copy count endswith extend find get index insert isalnum isalpha isdigit islower isspace isupper "
    "items join keys ljust lower lstrip partition pop remove replace reverse rfind rjust rpartition rsplit rstrip "
    "setdefault split splitlines startswith strip update upper values zfill bit_length".split()
)
DUNDERS = {"__init__", "__eq__", "__repr__", "__str__", "__len__"}
UNWANTED_WORDS = (
    r"\b(type|typing|typing_extensions|enum|Enum|IntEnum|StrEnum|Flag|IntFlag|Generic|Protocol|ABC|ABCMeta|namedtuple"
    r"|NamedTuple|TypedDict|TYPE_CHECKING|abstractmethod)\b|dataclass|overload|contextmanager"
)
UNWANTED_NAMES = set(
    "register mro elements open input version_info with_traceback add_note attrgetter breakpoint builtins compile "
    "copyright credits delattr dir eval exec exit gc getattr globals hasattr help id importlib license locals "
    "methodcaller os quit setattr super type vars sys __name__ chr print format format_map".split()
)
PYTHON_NAMES = set(dir(builtins))


def trees():
    return [(path.name, ast.parse(path.read_text())) for path in FILES]


def bound_names(tree):
    """Names that the file gives a meaning: defs, classes, imports, parameters, targets, handlers."""
    names = []
    for node in ast.walk(tree):
        if isinstance(node, (ast.FunctionDef, ast.ClassDef)):
            names.append(node.name)
        elif isinstance(node, ast.arg):
            names.append(node.arg)
        elif isinstance(node, ast.Name) and isinstance(node.ctx, ast.Store):
            names.append(node.id)
        elif isinstance(node, ast.ImportFrom):
            names.extend(alias.asname or alias.name for alias in node.names)
        elif isinstance(node, ast.ExceptHandler) and node.name:
            names.append(node.name)
    return names


class Files(unittest.TestCase):
    def test_nothing_else_lies_in_the_package(self):
        for path in PACKAGE.rglob("*"):
            if "__pycache__" not in path.parts and not path.is_dir():
                self.assertRegex(path.name, r"^([a-z][a-z0-9_]*|__init__|__main__)\.py$")
                self.assertNotIn(path.stem, PYTHON_NAMES)

    def test_size_and_signs(self):
        for path in FILES:
            rows = path.read_text(encoding="utf-8").split("\n")
            self.assertLessEqual(len(rows), 400, path.name)
            for number, row in enumerate(rows, start=1):
                self.assertRegex(row, r"^[ -~]{0,120}$", (path.name, number))
                self.assertIsNone(re.search(UNWANTED_WORDS, row), (path.name, number))

    def test_functions_are_short(self):
        for name, tree in trees():
            for node in ast.walk(tree):
                if isinstance(node, ast.FunctionDef):
                    self.assertLessEqual(node.end_lineno - node.lineno + 1, 40, (name, node.name))
                    self.assertEqual(node.decorator_list, [], (name, node.name))


class Forms(unittest.TestCase):
    def test_statements_and_expressions(self):
        for name, tree in trees():
            for node in ast.walk(tree):
                place = (name, getattr(node, "lineno", 0), type(node).__name__)
                if isinstance(node, ast.stmt):
                    self.assertIsInstance(node, STATEMENTS, place)
                if isinstance(node, ast.expr):
                    self.assertIsInstance(node, EXPRESSIONS, place)
                self.assertNotIsInstance(getattr(node, "op", None), (ast.Div, ast.MatMult), place)
                self.check_details(node, place)

    def check_details(self, node, place):
        if isinstance(node, ast.Constant):
            self.assertIn(type(node.value), (int, str, bool, type(None)), place)
        if isinstance(node, (ast.For, ast.While)):
            self.assertEqual(node.orelse, [], place)
        if isinstance(node, ast.Try):
            self.assertEqual(node.finalbody, [], place)
        if isinstance(node, ast.Assign):
            self.assertEqual(len(node.targets), 1, place)
            self.assertNotIsInstance(node.targets[0], (ast.Tuple, ast.List), place)
        if isinstance(node, ast.arguments):
            self.assertFalse(node.vararg or node.kwarg or node.kwonlyargs or node.posonlyargs, place)
        if isinstance(node, ast.ExceptHandler):
            self.assertIsNotNone(node.type, place)
        if isinstance(node, ast.ListComp):
            self.assertEqual(len(node.generators), 1, place)
            self.assertLessEqual(len(node.generators[0].ifs), 1, place)

    def test_texts_stand_alone_only_at_a_file_s_top(self):
        for name, tree in trees():
            for node in ast.walk(tree):
                if isinstance(node, ast.Expr) and node is not tree.body[0]:
                    self.assertIsInstance(node.value, ast.Call, (name, node.lineno))

    def test_the_top_of_a_file(self):
        for name, tree in trees():
            allowed = (ast.ImportFrom, ast.Assign, ast.FunctionDef, ast.ClassDef)
            for node in tree.body[1:]:
                self.assertIsInstance(node, allowed, (name, node.lineno))
            bound = [each for node in tree.body for each in bound_names_at_top(node)]
            self.assertEqual(sorted(bound), sorted(set(bound)), name)


def bound_names_at_top(node):
    if isinstance(node, (ast.FunctionDef, ast.ClassDef)):
        return [node.name]
    if isinstance(node, ast.Assign):
        return [node.targets[0].id]
    if isinstance(node, ast.ImportFrom):
        return [alias.name for alias in node.names]
    return []


class Names(unittest.TestCase):
    def test_names_are_plain_and_not_python_s_own(self):
        for name, tree in trees():
            for bound in bound_names(tree):
                if bound not in DUNDERS:
                    self.assertRegex(bound, r"^[A-Za-z][A-Za-z0-9_]*$", name)
                self.assertNotIn(bound, PYTHON_NAMES | UNWANTED_NAMES, name)

    def test_python_s_own_names_that_are_used(self):
        for name, tree in trees():
            own = set(bound_names(tree))
            for node in ast.walk(tree):
                if isinstance(node, ast.Name) and node.id not in own:
                    self.assertIn(node.id, BUILT_IN, (name, node.lineno))

    def test_methods_that_are_called(self):
        own = {each for name, tree in trees() for each in bound_names(tree)}
        for name, tree in trees():
            for node in ast.walk(tree):
                if isinstance(node, ast.Call) and isinstance(node.func, ast.Attribute):
                    self.assertIn(node.func.attr, METHODS | own | DUNDERS, (name, node.lineno))

    def test_no_name_is_a_method_here_and_a_value_there(self):
        methods, values = set(), set()
        for name, tree in trees():
            for node in ast.walk(tree):
                if isinstance(node, ast.ClassDef):
                    methods |= {each.name for each in node.body if isinstance(each, ast.FunctionDef)}
                if isinstance(node, ast.Attribute) and isinstance(node.ctx, ast.Store):
                    values.add(node.attr)
        self.assertEqual(methods & values, set())


class Imports(unittest.TestCase):
    def drawn(self):
        """By file: the files it draws from, and the names."""
        drawn = {}
        for name, tree in trees():
            rows = [node for node in ast.walk(tree) if isinstance(node, ast.ImportFrom)]
            drawn[name[:-3]] = [(row.module, row.level, [alias.name for alias in row.names]) for row in rows]
        return drawn

    def test_only_the_package_s_own_from_where_they_are_defined(self):
        defined = {name[:-3]: [n for node in tree.body if not isinstance(node, ast.ImportFrom)
                               for n in bound_names_at_top(node)] for name, tree in trees()}
        for name, rows in self.drawn().items():
            for module, level, names in rows:
                self.assertEqual(level, 0, name)
                self.assertRegex(module, r"^shieldwords\.[a-z_]+$", name)
                for each in names:
                    self.assertIn(each, defined[module.split(".")[1]], name)

    def test_no_two_files_draw_from_one_another(self):
        left = {name: {module.split(".")[1] for module, level, names in rows} for name, rows in self.drawn().items()}
        while left:
            free = [name for name, modules in left.items() if not modules & set(left)]
            self.assertTrue(free, left)
            for name in free:
                left.pop(name)


if __name__ == "__main__":
    unittest.main()
