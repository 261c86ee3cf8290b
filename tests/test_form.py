"""The form of the package's own files: what of its rules a walk over the code can tell."""

import ast
import builtins
import pathlib
import re
import unittest

PACKAGE = pathlib.Path(__file__).resolve().parent.parent / "sixciphers"

NODES = (
    "Module Expr Constant Assign Name Load Store FunctionDef ClassDef arguments arg Return If While For Break Continue "
    "Pass Call Attribute Subscript Slice List Tuple Dict ListComp comprehension IfExp Compare Eq NotEq Lt LtE Gt GtE "
    "In NotIn Is IsNot BoolOp And Or UnaryOp Not USub BinOp Add Sub Mult FloorDiv Mod BitAnd BitOr BitXor LShift RShift"
).split()
BUILT_IN = (
    "len range enumerate zip min max sum abs sorted reversed int str bool list tuple dict isinstance ord repr any all "
    "divmod"
).split()
METHODS = (
    "append clear copy count endswith extend find get index insert isalnum isalpha isdigit islower isspace isupper "
    "items join keys ljust lower lstrip partition pop remove replace reverse rfind rjust rpartition rsplit rstrip "
    "setdefault split splitlines startswith strip update upper values zfill bit_length"
).split()
NO_WORDS = (
    "type typing typing_extensions enum Enum IntEnum StrEnum Flag IntFlag Generic Protocol ABC ABCMeta namedtuple "
    "NamedTuple TypedDict TYPE_CHECKING abstractmethod"
).split()


def package_files():
    return sorted(path for path in PACKAGE.rglob("*") if path.is_file() and "__pycache__" not in path.parts)


def nodes(path, *kinds):
    return [node for node in ast.walk(ast.parse(path.read_text())) if isinstance(node, kinds)]


def bound_names(path):
    stored = [node.id for node in nodes(path, ast.Name) if isinstance(node.ctx, ast.Store)]
    given = [node.arg for node in nodes(path, ast.arg)]
    defined = [node.name for node in nodes(path, ast.FunctionDef, ast.ClassDef)]
    return stored + given + defined


class TestForm(unittest.TestCase):
    def each_file(self, check):
        for path in package_files():
            with self.subTest(file=path.name):
                check(path)

    def test_the_files(self):
        self.assertEqual([path.name for path in package_files()], ["__init__.py", "blocks.py"])

    def test_sizes_and_signs(self):
        def check(path):
            text = path.read_text()
            self.assertIsNone(re.search(r"[^ -~\n]", text))
            self.assertLessEqual(len(text.splitlines()), 400)
            self.assertLessEqual(max(len(line) for line in text.splitlines()), 120)
            for node in nodes(path, ast.FunctionDef):
                self.assertLessEqual(node.end_lineno - node.lineno + 1, 40, node.name)
        self.each_file(check)

    def test_words_that_stand_nowhere(self):
        def check(path):
            words = re.findall(r"\w+", path.read_text())
            self.assertEqual([word for word in words if word in NO_WORDS], [])
        self.each_file(check)

    def test_only_these_parts_of_the_language(self):
        """No import is among them."""
        def check(path):
            for node in nodes(path, ast.AST):
                self.assertIn(node.__class__.__name__, NODES, getattr(node, "lineno", 0))
            for node in nodes(path, ast.Constant):
                self.assertTrue(node.value is None or isinstance(node.value, (int, str)), node.lineno)
            for node in nodes(path, ast.Assign):
                self.assertEqual(len(node.targets), 1, node.lineno)
                self.assertNotIsInstance(node.targets[0], (ast.Tuple, ast.List), node.lineno)
            for node in nodes(path, ast.Expr)[1:]:
                self.assertIsInstance(node.value, ast.Call, node.lineno)
        self.each_file(check)

    def test_names(self):
        def check(path):
            bound = bound_names(path)
            for name in bound:
                self.assertRegex(name, r"\A([A-Za-z][A-Za-z0-9_]*|__init__)\Z")
                self.assertNotIn(name, vars(builtins))
            for node in nodes(path, ast.Name):
                self.assertIn(node.id, bound + BUILT_IN, node.lineno)
        self.each_file(check)

    def test_methods_and_values(self):
        def check(path):
            own = [node.name for node in nodes(path, ast.FunctionDef)]
            own_values = [node.attr for node in nodes(path, ast.Attribute) if isinstance(node.ctx, ast.Store)]
            for node in nodes(path, ast.Attribute):
                self.assertIn(node.attr, own + own_values + METHODS, node.lineno)
            for name in own_values:
                self.assertFalse(any(hasattr(kind, name) for kind in (str, int, list, dict, set, bytes)), name)
                self.assertNotIn(name, own)
        self.each_file(check)

    def test_each_name_once_at_the_top(self):
        def check(path):
            top = ast.parse(path.read_text()).body
            names = [node.name for node in top if isinstance(node, (ast.FunctionDef, ast.ClassDef))]
            names.extend(node.targets[0].id for node in top if isinstance(node, ast.Assign))
            self.assertEqual(len(names), len(set(names)))
        self.each_file(check)


if __name__ == "__main__":
    unittest.main()
