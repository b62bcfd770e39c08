"""The package's files keep to the part of Python that the program is written in.

Not every rule is asked here: those that a walk over the files can plainly see.
"""

import ast
import builtins
import pathlib
import re
import unittest

import lettertoll

FOLDER = pathlib.Path(lettertoll.__file__).parent

NODES = (
    "Module Import ImportFrom alias FunctionDef ClassDef arguments arg Lambda "
    "Assign AugAssign AnnAssign If While For Return Break Continue Pass Raise Try ExceptHandler Expr Call keyword "
    "Constant Name Attribute Subscript Slice List Tuple Dict Set ListComp comprehension IfExp "
    "BinOp UnaryOp BoolOp Compare JoinedStr FormattedValue Load Store "
    "Add Sub Mult FloorDiv Mod Pow BitAnd BitOr BitXor LShift RShift Invert Not USub UAdd And Or "
    "Eq NotEq Lt LtE Gt GtE Is IsNot In NotIn"
).split()

OWN_NAMES_OF_PYTHON = (
    "len range enumerate zip min max sum abs sorted reversed int str bool list tuple dict set frozenset isinstance "
    "ord repr any all divmod print Exception ValueError TypeError KeyError IndexError LookupError "
    "ZeroDivisionError ArithmeticError OverflowError RuntimeError NotImplementedError AttributeError StopIteration"
).split()

METHODS_WITH_UNDERSCORES = ("__init__", "__eq__", "__repr__", "__str__", "__len__")

WORDS_NOWHERE = (
    r"\b(type|typing|typing_extensions|enum|Enum|IntEnum|StrEnum|Flag|IntFlag|Generic|Protocol|ABC|ABCMeta|"
    r"namedtuple|NamedTuple|TypedDict|TYPE_CHECKING|abstractmethod)\b|dataclass|overload|contextmanager"
)


def trees():
    return [(path.name, ast.parse(path.read_text())) for path in sorted(FOLDER.glob("*.py"))]


def bound_names(tree):
    for node in ast.walk(tree):
        if isinstance(node, (ast.FunctionDef, ast.ClassDef)):
            yield node.name
        elif isinstance(node, ast.arg):
            yield node.arg
        elif isinstance(node, ast.Name) and isinstance(node.ctx, ast.Store):
            yield node.id
        elif isinstance(node, ast.Attribute) and isinstance(node.ctx, ast.Store):
            yield node.attr


class TestLanguage(unittest.TestCase):
    def test_only_plainly_named_files(self):
        for path in FOLDER.iterdir():
            if path.name != "__pycache__":
                self.assertRegex(path.name, r"^([a-z][a-z0-9_]*|__init__|__main__)\.py$")

    def test_sizes_and_signs(self):
        for path in FOLDER.glob("*.py"):
            text = path.read_bytes().decode("ascii")
            self.assertRegex(text, r"\A[ -~\n]*\Z", path.name)
            lines = text.split("\n")
            self.assertLessEqual(len(lines), 401, path.name)
            self.assertLessEqual(max(len(line) for line in lines), 120, path.name)
            self.assertIsNone(re.search(WORDS_NOWHERE, text), path.name)

    def test_functions_of_at_most_forty_lines(self):
        for name, tree in trees():
            for node in ast.walk(tree):
                if isinstance(node, ast.FunctionDef):
                    self.assertLessEqual(node.end_lineno - node.lineno + 1, 40, (name, node.name))
                    self.assertEqual(node.decorator_list, [], (name, node.name))
                    self.assertIsNone(node.args.vararg or node.args.kwarg, (name, node.name))
                    self.assertEqual(node.args.kwonlyargs + node.args.posonlyargs, [], (name, node.name))

    def test_only_told_statements_and_expressions(self):
        for name, tree in trees():
            for node in ast.walk(tree):
                self.assertIn(node.__class__.__name__, NODES, (name, getattr(node, "lineno", 0)))
                if isinstance(node, ast.Constant):
                    self.assertNotIsInstance(node.value, (float, complex, bytes), (name, node.lineno))
                if isinstance(node, (ast.For, ast.While)):
                    self.assertEqual(node.orelse, [], (name, node.lineno))
                if isinstance(node, ast.Assign):
                    self.assertEqual(len(node.targets), 1, (name, node.lineno))

    def test_imports_of_the_package_alone(self):
        for name, tree in trees():
            for node in ast.walk(tree):
                if isinstance(node, ast.ImportFrom):
                    self.assertIn(node, tree.body, name)
                    self.assertEqual(node.level, 0, name)
                    self.assertRegex(node.module, r"^(lettertoll\.[a-z]+|__future__)$", name)
                    self.assertNotIn("*", [part.name for part in node.names], name)
                if isinstance(node, ast.Import):
                    self.assertEqual((name, [part.name for part in node.names]), ("__main__.py", ["sys"]))

    def test_no_name_of_pythons_own_but_those_told(self):
        for name, tree in trees():
            for node in ast.walk(tree):
                if isinstance(node, ast.Name) and node.id in dir(builtins) and node.id != "__name__":
                    self.assertIn(node.id, OWN_NAMES_OF_PYTHON, (name, node.lineno))

    def test_plain_names_that_mean_nothing_else(self):
        for name, tree in trees():
            for bound in bound_names(tree):
                if bound not in METHODS_WITH_UNDERSCORES:
                    self.assertRegex(bound, r"^[A-Za-z][A-Za-z0-9_]*$", name)
                    self.assertNotIn(bound, dir(builtins), name)


METHODS_OF_PYTHONS_VALUES = (
    "append clear copy count endswith extend find get index insert isalnum isalpha isdigit islower isspace isupper "
    "items join keys ljust lower lstrip partition pop remove replace reverse rfind rjust rpartition rsplit rstrip "
    "setdefault split splitlines startswith strip update upper values zfill bit_length"
).split()

WALKED_AT_ONCE = ("zip", "enumerate", "reversed", "range")
WALKERS = ("list", "tuple", "dict", "sorted", "sum", "any", "all", "enumerate", "zip", "min", "max")
KEYWORDS = {
    "sorted": ("key", "reverse"), "min": ("key", "default"), "max": ("key", "default"),
    "sum": ("start",), "enumerate": ("start",), "zip": ("strict",),
}
TAKEN_NAMES = {name for value in ("", 0, [], {}, set(), b"", ()) for name in dir(value)}


def called_name(node):
    return node.func.id if isinstance(node, ast.Call) and isinstance(node.func, ast.Name) else None


def parents_of(tree):
    return {child: node for node in ast.walk(tree) for child in ast.iter_child_nodes(node)}


def imported_names(tree):
    return {part.name for node in tree.body if isinstance(node, ast.ImportFrom) for part in node.names}


def defined_names(tree):
    kinds = (ast.FunctionDef, ast.ClassDef)
    return [node.name for node in tree.body if isinstance(node, kinds)] + [
        target.id for node in tree.body if isinstance(node, ast.Assign) for target in node.targets
    ]


def classes():
    return [node for name, tree in trees() for node in tree.body if isinstance(node, ast.ClassDef)]


def methods_of(node):
    return [part.name for part in node.body if isinstance(part, ast.FunctionDef)]


class TestNarrowerRules(unittest.TestCase):
    def test_a_module_is_docstring_imports_values_functions_and_classes(self):
        for name, tree in trees():
            self.assertIsNotNone(ast.get_docstring(tree), name)
            for node in tree.body[1:]:
                self.assertIsInstance(node, (ast.ImportFrom, ast.FunctionDef, ast.ClassDef, ast.Assign), name)
            self.assertEqual(len(set(defined_names(tree))), len(defined_names(tree)), name)

    def test_only_calls_stand_by_themselves(self):
        for name, tree in trees():
            for node in ast.walk(tree):
                if isinstance(node, ast.Expr) and node is not tree.body[0]:
                    self.assertIsInstance(node.value, ast.Call, (name, node.lineno))

    def test_no_local_is_called_like_a_class_or_an_import(self):
        for name, tree in trees():
            taken = imported_names(tree) | {node.name for node in tree.body if isinstance(node, ast.ClassDef)}
            for node in ast.walk(tree):
                if isinstance(node, ast.arg):
                    self.assertNotIn(node.arg, taken, (name, node.lineno))
                elif isinstance(node, ast.Name) and isinstance(node.ctx, ast.Store):
                    self.assertNotIn(node.id, taken, (name, node.lineno))

    def test_names_are_drawn_from_where_they_are_defined_and_files_not_from_one_another(self):
        drawn, defined = {}, {}
        for name, tree in trees():
            module = "lettertoll." + name[:-3]
            defined[module] = defined_names(tree)
            drawn[module] = [node for node in tree.body if isinstance(node, ast.ImportFrom)]
        for module, rows in drawn.items():
            for row in rows:
                for part in row.names:
                    self.assertIn(part.name, defined[row.module], module)
                    self.assertIsNone(part.asname, module)

        def all_behind(module, seen):
            for row in drawn[module]:
                if row.module not in seen:
                    seen.add(row.module)
                    all_behind(row.module, seen)
            return seen

        for module in drawn:
            self.assertNotIn(module, all_behind(module, set()))

    def test_imports_are_used(self):
        for name, tree in trees():
            used = {node.id for node in ast.walk(tree) if isinstance(node, ast.Name)}
            self.assertEqual(imported_names(tree) - used, set(), name)

    def test_is_stands_beside_none_true_and_false_alone(self):
        for name, tree in trees():
            for node in ast.walk(tree):
                if isinstance(node, ast.Compare) and any(isinstance(op, (ast.Is, ast.IsNot)) for op in node.ops):
                    for side in node.comparators:
                        self.assertTrue(isinstance(side, ast.Constant) and side.value in (None, True, False), name)

    def test_keywords_at_pythons_own_names(self):
        for name, tree in trees():
            for node in ast.walk(tree):
                if isinstance(node, ast.Call) and called_name(node) in OWN_NAMES_OF_PYTHON:
                    for keyword in node.keywords:
                        self.assertIn(keyword.arg, KEYWORDS.get(called_name(node), ()), (name, node.lineno))

    def test_what_is_walked_is_walked_at_once(self):
        for name, tree in trees():
            parents = parents_of(tree)
            for node in ast.walk(tree):
                views = isinstance(node, ast.Call) and isinstance(node.func, ast.Attribute)
                views = views and node.func.attr in ("items", "keys", "values")
                if views or called_name(node) in WALKED_AT_ONCE:
                    parent = parents[node]
                    walked = isinstance(parent, (ast.For, ast.comprehension)) and parent.iter is node
                    self.assertTrue(walked or called_name(parent) in WALKERS, (name, node.lineno))

    def test_sets_are_not_kept(self):
        for name, tree in trees():
            parents = parents_of(tree)
            for node in ast.walk(tree):
                self.assertNotIsInstance(node, ast.Set, name)
                if called_name(node) in ("set", "frozenset"):
                    parent = parents[node]
                    held = isinstance(parent, ast.Compare) or called_name(parent) in ("sorted", "len")
                    self.assertTrue(held, (name, node.lineno))

    def test_methods_are_those_told_and_own_ones(self):
        own = {method for node in classes() for method in methods_of(node)}
        for name, tree in trees():
            for node in ast.walk(tree):
                if isinstance(node, ast.Call) and isinstance(node.func, ast.Attribute):
                    self.assertIn(node.func.attr, own.union(METHODS_OF_PYTHONS_VALUES), (name, node.lineno))

    def test_own_methods_and_values_have_names_of_their_own(self):
        methods = {method for node in classes() for method in methods_of(node)} - set(METHODS_WITH_UNDERSCORES)
        values = {
            part.attr
            for node in classes()
            for part in ast.walk(node)
            if isinstance(part, ast.Attribute) and isinstance(part.ctx, ast.Store)
        }
        self.assertEqual(methods & values, set())
        self.assertEqual((methods | values) & TAKEN_NAMES, set())
        for node in classes():
            self.assertEqual(len(set(methods_of(node))), len(methods_of(node)), node.name)

    def test_numbers_and_texts(self):
        for name, tree in trees():
            for node in ast.walk(tree):
                if isinstance(node, ast.BinOp) and isinstance(node.op, ast.Pow):
                    self.assertIsInstance(node.right, ast.Constant, (name, node.lineno))
                    self.assertLessEqual(node.right.value, 64, (name, node.lineno))
                if isinstance(node, ast.Constant) and isinstance(node.value, str):
                    self.assertNotIn("%", node.value, (name, node.lineno))
                if isinstance(node, ast.JoinedStr):
                    for part in node.values:
                        plain = isinstance(part, ast.Constant) or isinstance(part.value, ast.Name)
                        self.assertTrue(plain, (name, node.lineno))

    def test_comprehensions_and_assignments(self):
        for name, tree in trees():
            for node in ast.walk(tree):
                if isinstance(node, ast.ListComp):
                    self.assertEqual(len(node.generators), 1, (name, node.lineno))
                    self.assertLessEqual(len(node.generators[0].ifs), 1, (name, node.lineno))
                if isinstance(node, ast.Assign):
                    self.assertNotIsInstance(node.targets[0], (ast.Tuple, ast.List), (name, node.lineno))
                if isinstance(node, ast.Raise):
                    self.assertIsInstance(node.exc, ast.Call, (name, node.lineno))
                if isinstance(node, ast.ExceptHandler):
                    self.assertIsNotNone(node.type, (name, node.lineno))


if __name__ == "__main__":
    unittest.main()
