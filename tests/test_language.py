"""The package keeps to LANGUAGE.md, as far as a reading of its files can tell."""

import ast
import builtins
import os
import re
import unittest

PACKAGE = os.path.join(os.path.dirname(os.path.dirname(os.path.abspath(__file__))), "anytree")

OWN_NAMES = set(
    "len range enumerate zip min max sum abs sorted reversed int str bool list tuple dict set frozenset isinstance ord "
    "repr any all divmod Exception ValueError TypeError KeyError IndexError LookupError ZeroDivisionError "
    "ArithmeticError OverflowError RuntimeError NotImplementedError AttributeError StopIteration".split()
)
OWN_METHODS = set(
    "append clear copy count endswith extend find get index insert isalnum isalpha isdigit islower isspace isupper items "
    "join keys ljust lower lstrip partition pop remove replace reverse rfind rjust rpartition rsplit rstrip setdefault "
    "split splitlines startswith strip update upper values zfill bit_length".split()
)
NEVER_NAMES = set("register mro elements open input version_info with_traceback add_note format format_map".split())
NEVER_WORDS = re.compile(
    r"\b(type|typing|typing_extensions|enum|Enum|IntEnum|StrEnum|Flag|IntFlag|Generic|Protocol|ABC|ABCMeta|namedtuple|"
    r"NamedTuple|TypedDict|TYPE_CHECKING|abstractmethod)\b|dataclass|overload|contextmanager"
)
STATEMENTS = (
    ast.Assign, ast.AugAssign, ast.If, ast.While, ast.For, ast.Return, ast.Break, ast.Continue, ast.Pass, ast.Raise,
    ast.Try, ast.Expr, ast.FunctionDef, ast.ClassDef, ast.ImportFrom,
)
EXPRESSIONS = (
    ast.Constant, ast.List, ast.Tuple, ast.Dict, ast.BinOp, ast.UnaryOp, ast.Compare, ast.BoolOp, ast.IfExp, ast.Call,
    ast.Attribute, ast.Subscript, ast.Slice, ast.ListComp, ast.Name, ast.Lambda,
)
METHODS_WITH_UNDERSCORES = ("__init__", "__eq__", "__repr__", "__str__", "__len__")


def sources():
    found = {}
    for file in sorted(os.listdir(PACKAGE)):
        if file != "__pycache__":
            with open(os.path.join(PACKAGE, file), encoding="utf-8", newline="") as opened:
                found[file] = opened.read()
    return found


SOURCES = sources()
TREES = {file: ast.parse(SOURCES[file]) for file in SOURCES}


def walk(kinds):
    """(file, node) of all nodes of these kinds in the package."""
    return [(file, node) for file in TREES for node in ast.walk(TREES[file]) if isinstance(node, kinds)]


def own_methods():
    return {node.name for _, owner in walk(ast.ClassDef) for node in owner.body if isinstance(node, ast.FunctionDef)}


class Files(unittest.TestCase):
    def test_names_signs_and_sizes(self):
        self.assertIn("__init__.py", SOURCES)
        for file in SOURCES:
            self.assertRegex(file, r"^[a-z0-9_]+\.py$")
            self.assertTrue(file == "__init__.py" or not hasattr(builtins, file[:-3]), file)
            self.assertRegex(SOURCES[file], r"\A[ -~\n]*\Z", file)
            lines = SOURCES[file].split("\n")
            self.assertLessEqual(len(lines), 400, file)
            self.assertLessEqual(max(map(len, lines)), 120, file)
            self.assertIsNone(NEVER_WORDS.search(SOURCES[file]), file)

    def test_imports_are_the_packages_own(self):
        for file, node in walk((ast.Import, ast.ImportFrom)):
            self.assertIsInstance(node, ast.ImportFrom, file)
            self.assertEqual(node.level, 0)
            self.assertTrue(node.module.startswith("anytree."), node.module)
            defined = {name for statement in TREES[node.module[8:] + ".py"].body for name in bound_by(statement)}
            for alias in node.names:
                self.assertIn(alias.name, defined, file)
                self.assertIsNone(alias.asname)

    def test_no_two_files_draw_from_one_another(self):
        drawn = {file[:-3]: set() for file in SOURCES}
        for file, node in walk(ast.ImportFrom):
            drawn[file[:-3]].add(node.module[8:])
        self.assertEqual(drawn["__init__"], set())
        while drawn:
            free = [file for file in drawn if not drawn[file] & set(drawn)]
            self.assertTrue(free, drawn)
            for file in free:
                drawn.pop(file)


def bound_by(statement):
    if isinstance(statement, (ast.FunctionDef, ast.ClassDef)):
        return [statement.name]
    if isinstance(statement, ast.Assign):
        return [target.id for target in statement.targets]
    return []


class Statements(unittest.TestCase):
    def test_only_what_is_allowed(self):
        for file, node in walk((ast.stmt, ast.expr)):
            allowed = STATEMENTS if isinstance(node, ast.stmt) else EXPRESSIONS
            self.assertIsInstance(node, allowed, (file, node.lineno))

    def test_assignments_have_one_plain_target(self):
        for file, node in walk(ast.Assign):
            self.assertEqual(len(node.targets), 1, (file, node.lineno))
            self.assertIsInstance(node.targets[0], (ast.Name, ast.Attribute, ast.Subscript), (file, node.lineno))

    def test_loops(self):
        for file, node in walk((ast.For, ast.While)):
            self.assertEqual(node.orelse, [], (file, node.lineno))
        for file, node in walk(ast.ListComp):
            self.assertEqual(len(node.generators), 1)
            self.assertLessEqual(len(node.generators[0].ifs), 1)

    def test_a_lone_expression_is_a_call_or_a_docstring(self):
        for file, node in walk(ast.Expr):
            self.assertIsInstance(node.value, (ast.Call, ast.Constant), (file, node.lineno))

    def test_functions(self):
        for file, node in walk(ast.FunctionDef):
            self.assertLessEqual(node.end_lineno - node.lineno + 1, 40, (file, node.name))
            self.assertEqual(node.decorator_list, [])
            self.assertIsNone(node.returns)
            given = node.args
            self.assertIsNone(given.vararg or given.kwarg)
            self.assertEqual(given.kwonlyargs + given.posonlyargs, [])
            self.assertTrue(all(each.annotation is None for each in given.args))

    def test_classes(self):
        for file, node in walk(ast.ClassDef):
            self.assertEqual(node.decorator_list + node.keywords + node.bases, [])
            for inner in node.body:
                self.assertIsInstance(inner, (ast.FunctionDef, ast.Expr), (file, node.name))

    def test_operators_and_constants(self):
        for file, node in walk((ast.Div, ast.MatMult, ast.Pow)):
            self.fail((file, node))
        for file, node in walk(ast.Constant):
            self.assertIn(node.value.__class__, (int, str, bool, None.__class__), (file, node.lineno))
            self.assertFalse(isinstance(node.value, str) and "%" in node.value, (file, node.lineno))
        for file, node in walk(ast.Compare):
            for operator, right in zip(node.ops, node.comparators):
                if isinstance(operator, (ast.Is, ast.IsNot)):
                    self.assertIsInstance(right, ast.Constant, (file, node.lineno))

    def test_the_top_of_a_file(self):
        for file in TREES:
            bound = []
            for statement in TREES[file].body:
                self.assertIsInstance(statement, (ast.Expr, ast.ImportFrom, ast.FunctionDef, ast.ClassDef, ast.Assign))
                bound.extend(bound_by(statement))
                if isinstance(statement, ast.Assign):
                    ast.literal_eval(statement.value)
                elif isinstance(statement, ast.ImportFrom):
                    bound.extend(alias.name for alias in statement.names)
            self.assertEqual(len(bound), len(set(bound)), file)


class Names(unittest.TestCase):
    def test_every_name_is_plain(self):
        for file, node in walk((ast.Name, ast.Attribute, ast.FunctionDef, ast.ClassDef, ast.arg)):
            name = getattr(node, "id", None) or getattr(node, "attr", None) or getattr(node, "name", None)
            name = name or getattr(node, "arg", None)
            if name not in METHODS_WITH_UNDERSCORES:
                self.assertRegex(name, r"^[A-Za-z][A-Za-z0-9_]*$", file)
            self.assertNotIn(name, NEVER_NAMES, file)

    def test_pythons_own_names(self):
        for file, node in walk(ast.Name):
            if isinstance(node.ctx, ast.Load):
                self.assertTrue(node.id in OWN_NAMES or not hasattr(builtins, node.id), (file, node.lineno, node.id))
            else:
                self.assertFalse(hasattr(builtins, node.id), (file, node.lineno, node.id))
        for file, node in walk(ast.arg):
            self.assertFalse(hasattr(builtins, node.arg), (file, node.lineno, node.arg))
        for file, node in walk((ast.FunctionDef, ast.ClassDef)):
            self.assertTrue(node.name == "__init__" or not hasattr(builtins, node.name), (file, node.name))

    def test_locals_are_not_called_like_imports_or_classes(self):
        for file in TREES:
            taken = {alias.name for node in ast.walk(TREES[file]) if isinstance(node, ast.ImportFrom) for alias in node.names}
            taken |= {node.name for node in TREES[file].body if isinstance(node, ast.ClassDef)}
            for node in ast.walk(TREES[file]):
                if isinstance(node, ast.arg):
                    self.assertNotIn(node.arg, taken, file)
                elif isinstance(node, ast.Name) and isinstance(node.ctx, ast.Store):
                    self.assertNotIn(node.id, taken, file)

    def test_methods(self):
        own = own_methods()
        for file, node in walk(ast.Call):
            if isinstance(node.func, ast.Attribute):
                self.assertIn(node.func.attr, own | OWN_METHODS, (file, node.lineno))
            self.assertEqual(node.keywords, [], (file, node.lineno))

    def test_no_name_is_a_method_and_a_value(self):
        values = {node.attr for _, node in walk(ast.Attribute) if isinstance(node.ctx, ast.Store)}
        self.assertEqual(values & own_methods(), set())
        taken = {name for each in (str, int, list, dict, set, bytes) for name in dir(each)} - {"__init__"}
        self.assertEqual((values | own_methods()) & taken, set())


if __name__ == "__main__":
    unittest.main()
