"""The form of the package's files, as far as a few plain checks can tell it (the rules' numbers in brackets)."""

import ast
import builtins
import pathlib
import re
import unittest

import cupsalong

FOLDER = pathlib.Path(cupsalong.__file__).parent
STATEMENTS = (
    ast.Assign, ast.AugAssign, ast.If, ast.While, ast.For, ast.Return, ast.Break, ast.Continue, ast.Pass,
    ast.Raise, ast.Try, ast.Expr, ast.FunctionDef, ast.ClassDef, ast.ImportFrom,
)
OUT = (
    ast.GeneratorExp, ast.SetComp, ast.DictComp, ast.NamedExpr, ast.Starred, ast.Yield, ast.Await, ast.Div,
)
BUILT_IN = (
    "len range enumerate zip min max sum abs sorted reversed int str bool list tuple dict isinstance ord repr any all "
    "divmod Exception ValueError TypeError KeyError IndexError LookupError ZeroDivisionError ArithmeticError "
    "OverflowError RuntimeError NotImplementedError AttributeError StopIteration set frozenset"
).split()
WORDS_OUT = (
    r"\b(type|typing|typing_extensions|enum|Enum|IntEnum|StrEnum|Flag|IntFlag|Generic|Protocol|ABC|ABCMeta|namedtuple"
    r"|NamedTuple|TypedDict|TYPE_CHECKING|abstractmethod)\b|dataclass|overload|contextmanager"
)


def sources():
    return {path.name: path.read_text(encoding="utf-8") for path in sorted(FOLDER.glob("*.py"))}


def trees():
    return [ast.parse(text, name) for name, text in sources().items()]


def bound_names(tree):
    names = []
    for node in ast.walk(tree):
        if isinstance(node, ast.Name) and isinstance(node.ctx, ast.Store):
            names.append(node.id)
        elif isinstance(node, (ast.FunctionDef, ast.ClassDef)):
            names.append(node.name)
        elif isinstance(node, ast.arg):
            names.append(node.arg)
        elif isinstance(node, ast.alias):
            names.append(node.name)
    return names


class Form(unittest.TestCase):
    def test_the_folder_holds_plain_files_alone(self):
        names = [path.name for path in FOLDER.iterdir() if path.name != "__pycache__"]
        self.assertIn("__init__.py", names)
        for name in names:
            self.assertRegex(name, r"^(__init__|[a-z][a-z0-9_]*)\.py$", "L1, L14")

    def test_signs_and_sizes(self):
        for name, text in sources().items():
            with self.subTest(file=name):
                self.assertRegex(text, r"\A[ -~\n]*\Z", "L14")
                self.assertIsNone(re.search(WORDS_OUT, text), "L17")
                self.assertLessEqual(len(text.splitlines()), 400, "L10")
                self.assertLessEqual(max(len(row) for row in text.splitlines()), 120, "L10")

    def test_functions_have_at_most_40_lines(self):
        for tree in trees():
            for node in ast.walk(tree):
                if isinstance(node, ast.FunctionDef):
                    self.assertLessEqual(node.end_lineno - node.lineno + 1, 40, "L10")
                    self.assertEqual(node.decorator_list, [], "L4")

    def test_statements_and_expressions(self):
        for tree in trees():
            for node in ast.walk(tree):
                if isinstance(node, ast.stmt):
                    self.assertIsInstance(node, STATEMENTS, "L6, L16")
                self.assertNotIsInstance(node, OUT, "L7")
                if isinstance(node, ast.Assign):
                    self.assertEqual(len(node.targets), 1, "L6")
                if isinstance(node, ast.Constant):
                    self.assertNotIsInstance(node.value, (float, bytes, complex), "L7")

    def test_imports_are_the_package_s_own(self):
        for tree in trees():
            for node in ast.walk(tree):
                if isinstance(node, ast.ImportFrom):
                    self.assertEqual(node.level, 0, "L2")
                    self.assertIn(node.module.replace("cupsalong.", "") + ".py", sources(), "L2, L9")

    def test_names(self):
        for tree in trees():
            bound = bound_names(tree)
            for name in bound:
                self.assertRegex(name, r"^(__init__|[A-Za-z][A-Za-z0-9_]*)$", "L12")
                self.assertNotIn(name, vars(builtins), "L15")
            for node in ast.walk(tree):
                if isinstance(node, ast.Name) and isinstance(node.ctx, ast.Load):
                    self.assertIn(node.id, bound + BUILT_IN, "L8")

    def test_no_name_is_a_method_and_a_value(self):
        methods, given = set(), set()
        for tree in trees():
            for node in ast.walk(tree):
                if isinstance(node, ast.ClassDef):
                    methods.update(inner.name for inner in node.body if isinstance(inner, ast.FunctionDef))
                if isinstance(node, ast.Attribute) and isinstance(node.ctx, ast.Store):
                    given.add(node.attr)
        self.assertEqual(methods & given, set(), "L18")

    def test_no_local_is_called_like_a_class_or_an_import(self):
        for tree in trees():
            taken = [node.name for node in tree.body if isinstance(node, ast.ClassDef)]
            for node in tree.body:
                if isinstance(node, ast.ImportFrom):
                    taken += [alias.name for alias in node.names]
            for node in ast.walk(tree):
                if isinstance(node, ast.FunctionDef):
                    inner = [name for row in node.body for name in bound_names(row)] + bound_names(node.args)
                    self.assertEqual(set(inner) & set(taken), set(), "L15")

    def test_what_is_bound_at_the_top_is_bound_once(self):
        for tree in trees():
            names = []
            for node in tree.body:
                if isinstance(node, ast.Assign):
                    names += [target.id for target in node.targets]
                elif isinstance(node, (ast.FunctionDef, ast.ClassDef)):
                    names.append(node.name)
                elif isinstance(node, ast.ImportFrom):
                    names += [alias.name for alias in node.names]
            self.assertEqual(sorted(set(names)), sorted(names), "L15")
