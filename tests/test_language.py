"""The package keeps to its part of Python, as far as its form alone can show it."""

import ast
import inspect
import pathlib
import re
import unittest

from rilltexts import programs

PACKAGE = pathlib.Path(programs.__file__).parent

NODES = (
    "Module Expr Constant ImportFrom alias FunctionDef arguments arg ClassDef Return Assign AugAssign If While For Break"
    " Continue Pass Raise Try ExceptHandler Name Load Store Attribute Subscript Slice Call Compare BoolOp BinOp UnaryOp"
    " IfExp List Tuple Dict ListComp comprehension Lambda And Or Not Add Sub Mult FloorDiv Mod USub BitAnd BitOr BitXor"
    " LShift RShift Invert Eq NotEq Lt LtE Gt GtE In NotIn Is IsNot JoinedStr FormattedValue"
).split()
TOP_NODES = (ast.ImportFrom, ast.FunctionDef, ast.ClassDef, ast.Assign, ast.Expr)
BUILT_IN = (
    "len range enumerate zip min max sum abs sorted reversed int str bool list tuple dict set isinstance ord repr any"
    " all divmod Exception ValueError KeyError IndexError LookupError"
).split()
METHODS = (
    "append clear copy count endswith extend find get index insert isalnum isalpha isdigit islower isspace isupper items"
    " join keys ljust lower lstrip partition pop remove replace reverse rfind rjust rpartition rsplit rstrip setdefault"
    " split splitlines startswith strip update upper values zfill bit_length"
).split()
WORDS_NOT_USED = (
    "type typing typing_extensions enum Enum IntEnum StrEnum Flag IntFlag Generic Protocol ABC ABCMeta namedtuple"
    " NamedTuple TypedDict TYPE_CHECKING abstractmethod register mro elements open input version_info"
).split()


def sources():
    return [(path, path.read_text(encoding="utf-8")) for path in sorted(PACKAGE.rglob("*.py"))]


def trees():
    return [(path.name, ast.parse(source)) for path, source in sources()]


def names_bound(tree):
    """Every name that a file or one of its defs binds."""
    bound = []
    for node in ast.walk(tree):
        if isinstance(node, (ast.FunctionDef, ast.ClassDef)):
            bound.append(node.name)
        elif isinstance(node, ast.arg):
            bound.append(node.arg)
        elif isinstance(node, ast.alias):
            bound.append(node.asname or node.name)
        elif isinstance(node, ast.Name) and isinstance(node.ctx, ast.Store):
            bound.append(node.id)
    return bound


class Files(unittest.TestCase):
    def test_only_plain_python_files(self):
        for path in PACKAGE.rglob("*"):
            if "__pycache__" not in path.parts:
                self.assertRegex(path.name, r"^[a-z0-9_]+\.py$")

    def test_size_and_signs(self):
        for path, source in sources():
            self.assertLessEqual(len(source.split("\n")), 400, path.name)
            self.assertLessEqual(max(len(line) for line in source.split("\n")), 120, path.name)
            self.assertRegex(source, r"\A[ -~\n]*\Z", path.name)

    def test_words_that_stand_nowhere(self):
        for path, source in sources():
            found = re.findall(r"\w+", source)
            self.assertEqual([word for word in WORDS_NOT_USED if word in found], [], path.name)


class Forms(unittest.TestCase):
    def test_statements_and_expressions(self):
        for name, tree in trees():
            for node in ast.walk(tree):
                self.assertIn(node.__class__.__name__, NODES, f"{name} {getattr(node, 'lineno', 0)}")

    def test_tops_of_files(self):
        for name, tree in trees():
            for node in tree.body:
                self.assertIsInstance(node, TOP_NODES, f"{name} {node.lineno}")
                if isinstance(node, ast.Assign):
                    ast.literal_eval(node.value)

    def test_imports_are_the_packages_own(self):
        for name, tree in trees():
            for node in ast.walk(tree):
                if isinstance(node, ast.ImportFrom):
                    self.assertEqual(node.level, 0, name)
                    self.assertTrue(node.module.startswith("rilltexts."), name)

    def test_defs_are_short_and_plain(self):
        for name, tree in trees():
            for node in ast.walk(tree):
                if isinstance(node, ast.FunctionDef):
                    self.assertLessEqual(node.end_lineno - node.lineno + 1, 40, f"{name} {node.name}")
                    self.assertEqual(node.decorator_list, [])
                    self.assertIsNone(node.args.vararg or node.args.kwarg)

    def test_assignments_have_one_target(self):
        for name, tree in trees():
            for node in ast.walk(tree):
                if isinstance(node, ast.Assign):
                    self.assertEqual(len(node.targets), 1, f"{name} {node.lineno}")
                    self.assertNotIsInstance(node.targets[0], (ast.Tuple, ast.List), f"{name} {node.lineno}")

    def test_texts_and_numbers(self):
        for name, tree in trees():
            for node in ast.walk(tree):
                if isinstance(node, ast.Constant):
                    self.assertIsInstance(node.value, (int, str, type(None)), name)
                    self.assertNotIn("%", str(node.value), name)


class Names(unittest.TestCase):
    def test_names_are_plain_and_not_pythons_own(self):
        for name, tree in trees():
            for bound in names_bound(tree):
                if bound != "__init__":
                    self.assertRegex(bound, r"^[A-Za-z][A-Za-z0-9_]*$", name)
                    self.assertNotIn(bound, dir(__builtins__) if inspect.ismodule(__builtins__) else __builtins__, name)

    def test_names_that_are_read_are_known(self):
        for name, tree in trees():
            known = names_bound(tree) + BUILT_IN
            for node in ast.walk(tree):
                if isinstance(node, ast.Name):
                    self.assertIn(node.id, known, f"{name} {node.lineno}")

    def test_methods_that_are_called(self):
        for name, tree in trees():
            for node in ast.walk(tree):
                if isinstance(node, ast.Call) and isinstance(node.func, ast.Attribute):
                    self.assertIn(node.func.attr, METHODS, f"{name} {node.lineno}")


class Interface(unittest.TestCase):
    def test_names_and_arguments(self):
        self.assertEqual(str(inspect.signature(programs.judge)), "(t)")
        self.assertEqual(str(inspect.signature(programs.tokens)), "(t)")
        self.assertEqual(str(inspect.signature(programs.write)), "(t)")
        self.assertEqual(str(inspect.signature(programs.same)), "(t, s)")
        self.assertEqual(str(inspect.signature(programs.decl)), "(i, t)")
        self.assertEqual(str(inspect.signature(programs.find)), "(t, s)")
        self.assertEqual(str(inspect.signature(programs.part)), "(at, t)")
        self.assertEqual(str(inspect.signature(programs.classes)), "(t)")


if __name__ == "__main__":
    unittest.main()
