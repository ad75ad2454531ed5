"""The form of the package's files: the rules of the language that can be seen in a file by itself."""

import ast
import builtins
import pathlib
import re
import unittest

PACKAGE = pathlib.Path(__file__).resolve().parent.parent / "cornersquares"

ALLOWED_NAMES = (
    "len range enumerate zip min max sum abs sorted reversed int str bool list tuple dict set frozenset isinstance "
    "ord repr any all divmod Exception ValueError TypeError KeyError IndexError LookupError ZeroDivisionError "
    "ArithmeticError OverflowError RuntimeError NotImplementedError AttributeError StopIteration"
).split()

ALLOWED_METHODS = (
    "append clear copy count endswith extend find get index insert isalnum isalpha isdigit islower isspace isupper "
    "items join keys ljust lower lstrip partition pop remove replace reverse rfind rjust rpartition rsplit rstrip "
    "setdefault split splitlines startswith strip update upper values zfill bit_length"
).split()

FORBIDDEN_NODES = (
    ast.With, ast.Match, ast.Delete, ast.Global, ast.Nonlocal, ast.Assert, ast.Yield, ast.YieldFrom, ast.Await,
    ast.AsyncFunctionDef, ast.AsyncFor, ast.AsyncWith, ast.NamedExpr, ast.Starred, ast.SetComp, ast.DictComp,
    ast.GeneratorExp, ast.Div, ast.MatMult, ast.Import, ast.AnnAssign,
)

FORBIDDEN_WORDS = (
    "type typing typing_extensions enum Enum IntEnum StrEnum Flag IntFlag Generic Protocol ABC ABCMeta namedtuple "
    "NamedTuple TypedDict TYPE_CHECKING abstractmethod"
).split()


# A method or value of the program's own bears no name that Python's own values have.
TAKEN_NAMES = {name for kind in (str, int, list, tuple, dict, set, bytes) for name in dir(kind)}
OWN_UNDERSCORED = ("__init__", "__eq__", "__repr__", "__str__", "__len__")


def package_files():
    return sorted(path for path in PACKAGE.rglob("*") if path.is_file() and "__pycache__" not in path.parts)


def trees():
    return [(path, ast.parse(path.read_text(encoding="utf-8"))) for path in package_files()]


def own_attributes(tree):
    """The methods of the classes, and the values that are given to an object."""
    found = []
    for node in ast.walk(tree):
        if isinstance(node, ast.ClassDef):
            found.extend(part.name for part in node.body if isinstance(part, ast.FunctionDef))
        elif isinstance(node, ast.Attribute) and isinstance(node.ctx, ast.Store):
            found.append(node.attr)
    return found


def top_names(tree):
    found = []
    for node in tree.body:
        if isinstance(node, ast.Assign):
            found.extend(target.id for target in node.targets)
        elif isinstance(node, (ast.FunctionDef, ast.ClassDef)):
            found.append(node.name)
    return found


def bound_names(tree):
    found = []
    for node in ast.walk(tree):
        if isinstance(node, ast.FunctionDef) or isinstance(node, ast.ClassDef):
            found.append(node.name)
        elif isinstance(node, ast.arg):
            found.append(node.arg)
        elif isinstance(node, ast.Name) and isinstance(node.ctx, ast.Store):
            found.append(node.id)
        elif isinstance(node, ast.ImportFrom):
            found.extend(alias.asname or alias.name for alias in node.names)
    return found


class Files(unittest.TestCase):
    def test_the_package_holds_plain_python_files_alone(self):
        names = [path.relative_to(PACKAGE).as_posix() for path in package_files()]
        self.assertIn("__init__.py", names)
        self.assertIn("pictures.py", names)
        for name in names:
            self.assertRegex(name, r"\A[a-z0-9_]+\.py\Z")

    def test_signs_and_sizes(self):
        for path in package_files():
            raw = path.read_bytes()
            self.assertTrue(all(sign == 10 or 32 <= sign <= 126 for sign in raw), path)
            lines = raw.decode("ascii").split("\n")
            self.assertLessEqual(len(lines), 400, path)
            self.assertLessEqual(max(len(line) for line in lines), 120, path)

    def test_words_that_stand_nowhere(self):
        for path in package_files():
            text = path.read_text(encoding="utf-8")
            for word in re.findall(r"[A-Za-z0-9_]+", text):
                self.assertNotIn(word, FORBIDDEN_WORDS, path)
            self.assertNotRegex(text, "dataclass|overload|contextmanager", path)


class Code(unittest.TestCase):
    def test_only_allowed_statements_and_expressions(self):
        for path, tree in trees():
            for node in ast.walk(tree):
                self.assertNotIsInstance(node, FORBIDDEN_NODES, path)
                if isinstance(node, ast.Constant):
                    self.assertIn(type(node.value), (int, str, bool, type(None)), path)
                if isinstance(node, ast.FunctionDef):
                    self.assertLessEqual(node.end_lineno - node.lineno + 1, 40, node.name)
                    self.assertEqual(node.decorator_list, [], node.name)

    def test_imports_are_of_the_package_alone(self):
        for path, tree in trees():
            for node in ast.walk(tree):
                if isinstance(node, ast.ImportFrom):
                    self.assertEqual(node.level, 0, path)
                    self.assertTrue(node.module.startswith("cornersquares."), path)

    def test_names_read_are_own_or_allowed(self):
        for path, tree in trees():
            own = bound_names(tree)
            for node in ast.walk(tree):
                if isinstance(node, ast.Name) and isinstance(node.ctx, ast.Load):
                    self.assertIn(node.id, own + ALLOWED_NAMES, path)
                if isinstance(node, ast.Attribute):
                    self.assertIn(node.attr, ALLOWED_METHODS + own_attributes(tree), path)

    def test_own_methods_and_values_bear_free_names(self):
        for path, tree in trees():
            for name in own_attributes(tree):
                self.assertTrue(name in OWN_UNDERSCORED or name not in TAKEN_NAMES, (path, name))

    def test_each_name_at_the_top_is_bound_once(self):
        for path, tree in trees():
            names = top_names(tree)
            self.assertEqual(len(names), len(set(names)), path)

    def test_what_a_file_does_at_its_top(self):
        for path, tree in trees():
            for node in tree.body[1:]:
                self.assertIsInstance(node, (ast.ImportFrom, ast.Assign, ast.FunctionDef, ast.ClassDef), path)
            self.assertTrue(ast.get_docstring(tree), path)

    def test_no_sign_of_division_within_a_text(self):
        for path, tree in trees():
            for node in ast.walk(tree):
                if isinstance(node, ast.Constant) and isinstance(node.value, str):
                    self.assertNotIn("%", node.value, path)

    def test_is_stands_beside_none_true_and_false_alone(self):
        for path, tree in trees():
            for node in ast.walk(tree):
                if isinstance(node, ast.Compare) and isinstance(node.ops[0], (ast.Is, ast.IsNot)):
                    self.assertIsInstance(node.comparators[0], ast.Constant, path)

    def test_an_assignment_has_one_plain_target(self):
        for path, tree in trees():
            for node in ast.walk(tree):
                if isinstance(node, ast.Assign):
                    self.assertEqual(len(node.targets), 1, path)
                    self.assertIsInstance(node.targets[0], (ast.Name, ast.Attribute, ast.Subscript), path)

    def test_names_bound_are_plain_and_none_of_pythons_own(self):
        for path, tree in trees():
            for name in bound_names(tree):
                if name in OWN_UNDERSCORED:
                    continue
                self.assertRegex(name, r"\A[A-Za-z][A-Za-z0-9_]*\Z", path)
                self.assertNotIn(name, dir(builtins), path)


if __name__ == "__main__":
    unittest.main()
