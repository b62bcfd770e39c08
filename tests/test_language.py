"""The package's files keep to the part of Python that the program is written in.

Not every rule is asked here: those that a walk over the files can plainly see.
"""

import ast
import builtins
import pathlib
import re
import unittest

import lettertoll

FOLDER = pathlib.Path(lettertoll.__file__).parent

NODES = (
    "Module Import ImportFrom alias FunctionDef ClassDef arguments arg Lambda "
    "Assign AugAssign AnnAssign If While For Return Break Continue Pass Raise Try ExceptHandler Expr Call keyword "
    "Constant Name Attribute Subscript Slice List Tuple Dict Set ListComp comprehension IfExp "
    "BinOp UnaryOp BoolOp Compare JoinedStr FormattedValue Load Store "
    "Add Sub Mult FloorDiv Mod Pow BitAnd BitOr BitXor LShift RShift Invert Not USub UAdd And Or "
    "Eq NotEq Lt LtE Gt GtE Is IsNot In NotIn"
).split()

OWN_NAMES_OF_PYTHON = (
    "len range enumerate zip min max sum abs sorted reversed int str bool list tuple dict set frozenset isinstance "
    "ord repr any all divmod print Exception ValueError TypeError KeyError IndexError LookupError "
    "ZeroDivisionError ArithmeticError OverflowError RuntimeError NotImplementedError AttributeError StopIteration"
).split()

METHODS_WITH_UNDERSCORES = ("__init__", "__eq__", "__repr__", "__str__", "__len__")

WORDS_NOWHERE = (
    r"\b(type|typing|typing_extensions|enum|Enum|IntEnum|StrEnum|Flag|IntFlag|Generic|Protocol|ABC|ABCMeta|"
    r"namedtuple|NamedTuple|TypedDict|TYPE_CHECKING|abstractmethod)\b|dataclass|overload|contextmanager"
)


def trees():
    return [(path.name, ast.parse(path.read_text())) for path in sorted(FOLDER.glob("*.py"))]


def bound_names(tree):
    for node in ast.walk(tree):
        if isinstance(node, (ast.FunctionDef, ast.ClassDef)):
            yield node.name
        elif isinstance(node, ast.arg):
            yield node.arg
        elif isinstance(node, ast.Name) and isinstance(node.ctx, ast.Store):
            yield node.id
        elif isinstance(node, ast.Attribute) and isinstance(node.ctx, ast.Store):
            yield node.attr


class TestLanguage(unittest.TestCase):
    def test_only_plainly_named_files(self):
        for path in FOLDER.iterdir():
            if path.name != "__pycache__":
                self.assertRegex(path.name, r"^([a-z][a-z0-9_]*|__init__|__main__)\.py$")

    def test_sizes_and_signs(self):
        for path in FOLDER.glob("*.py"):
            text = path.read_bytes().decode("ascii")
            self.assertRegex(text, r"\A[ -~\n]*\Z", path.name)
            lines = text.split("\n")
            self.assertLessEqual(len(lines), 401, path.name)
            self.assertLessEqual(max(len(line) for line in lines), 120, path.name)
            self.assertIsNone(re.search(WORDS_NOWHERE, text), path.name)

    def test_functions_of_at_most_forty_lines(self):
        for name, tree in trees():
            for node in ast.walk(tree):
                if isinstance(node, ast.FunctionDef):
                    self.assertLessEqual(node.end_lineno - node.lineno + 1, 40, (name, node.name))
                    self.assertEqual(node.decorator_list, [], (name, node.name))
                    self.assertIsNone(node.args.vararg or node.args.kwarg, (name, node.name))
                    self.assertEqual(node.args.kwonlyargs + node.args.posonlyargs, [], (name, node.name))

    def test_only_told_statements_and_expressions(self):
        for name, tree in trees():
            for node in ast.walk(tree):
                self.assertIn(node.__class__.__name__, NODES, (name, getattr(node, "lineno", 0)))
                if isinstance(node, ast.Constant):
                    self.assertNotIsInstance(node.value, (float, complex, bytes), (name, node.lineno))
                if isinstance(node, (ast.For, ast.While)):
                    self.assertEqual(node.orelse, [], (name, node.lineno))
                if isinstance(node, ast.Assign):
                    self.assertEqual(len(node.targets), 1, (name, node.lineno))

    def test_imports_of_the_package_alone(self):
        for name, tree in trees():
            for node in ast.walk(tree):
                if isinstance(node, ast.ImportFrom):
                    self.assertIn(node, tree.body, name)
                    self.assertEqual(node.level, 0, name)
                    self.assertRegex(node.module, r"^(lettertoll\.[a-z]+|__future__)$", name)
                    self.assertNotIn("*", [part.name for part in node.names], name)
                if isinstance(node, ast.Import):
                    self.assertEqual((name, [part.name for part in node.names]), ("__main__.py", ["sys"]))

    def test_no_name_of_pythons_own_but_those_told(self):
        for name, tree in trees():
            for node in ast.walk(tree):
                if isinstance(node, ast.Name) and node.id in dir(builtins) and node.id != "__name__":
                    self.assertIn(node.id, OWN_NAMES_OF_PYTHON, (name, node.lineno))

    def test_plain_names_that_mean_nothing_else(self):
        for name, tree in trees():
            for bound in bound_names(tree):
                if bound not in METHODS_WITH_UNDERSCORES:
                    self.assertRegex(bound, r"^[A-Za-z][A-Za-z0-9_]*$", name)
                    self.assertNotIn(bound, dir(builtins), name)


if __name__ == "__main__":
    unittest.main()
