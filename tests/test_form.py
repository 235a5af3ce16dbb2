"""What the interface and the language say of the package's own files."""

import ast
import builtins
import pathlib
import re
import unittest

import forcednodes

FOLDER = pathlib.Path(forcednodes.__file__).parent
FILES = sorted(FOLDER.rglob("*.py"))
OWN_NAMES = (
    "len range enumerate zip min max sum abs sorted reversed int str bool list tuple dict set frozenset isinstance "
    "ord repr any all divmod"
).split()
OWN_METHODS = (
    "append clear copy count endswith extend find get index insert isalnum isalpha isdigit islower isspace isupper "
    "items join keys ljust lower lstrip partition pop remove replace reverse rfind rjust rpartition rsplit rstrip "
    "setdefault split splitlines startswith strip update upper values zfill bit_length"
).split()
WORDS = (
    "type typing typing_extensions enum Enum IntEnum StrEnum Flag IntFlag Generic Protocol ABC ABCMeta namedtuple "
    "NamedTuple TypedDict TYPE_CHECKING abstractmethod"
).split()
# What the package is written with: a part of what the language allows, so that anything beyond it is looked at first.
FORMS = (
    "Module FunctionDef arguments arg Expr Assign Return If While For Break Continue Pass "
    "Constant Name Load Store List Tuple Dict Call Attribute Subscript Slice IfExp ListComp comprehension "
    "BoolOp And Or UnaryOp Not Invert USub BinOp Add Sub Mult FloorDiv Mod LShift RShift BitAnd BitOr BitXor "
    "Compare Eq NotEq Lt LtE Gt GtE In NotIn"
).split()


def trees():
    return [(file.name, ast.parse(file.read_text("utf-8"))) for file in FILES]


class Form(unittest.TestCase):
    def test_only_these_files(self):
        lying = sorted(file.name for file in FOLDER.iterdir() if file.name != "__pycache__")
        self.assertEqual(lying, ["__init__.py", "forcing.py"])

    def test_it_imports_nothing(self):
        for name, tree in trees():
            for node in ast.walk(tree):
                self.assertNotIsInstance(node, (ast.Import, ast.ImportFrom), name)

    def test_it_calls_only_its_own_and_a_few_of_pythons(self):
        for name, tree in trees():
            own = [node.name for node in ast.walk(tree) if isinstance(node, ast.FunctionDef)]
            for node in ast.walk(tree):
                if isinstance(node, ast.Call) and isinstance(node.func, ast.Name):
                    self.assertIn(node.func.id, own + OWN_NAMES, name)

    def test_it_has_only_methods_of_pythons_own_values_that_may_be_used(self):
        for name, tree in trees():
            for node in ast.walk(tree):
                if isinstance(node, ast.Attribute):
                    self.assertIn(node.attr, OWN_METHODS, name)

    def test_it_is_written_in_few_forms(self):
        for name, tree in trees():
            for node in ast.walk(tree):
                self.assertIn(node.__class__.__name__, FORMS, name)
                if isinstance(node, ast.Constant):
                    self.assertIn(node.value.__class__, (int, str, bool, None.__class__), name)
                if isinstance(node, (ast.For, ast.While)):
                    self.assertEqual(node.orelse, [], name)
                if isinstance(node, ast.Assign):
                    self.assertEqual(len(node.targets), 1, name)
                if isinstance(node, ast.ListComp):
                    self.assertEqual(len(node.generators), 1, name)
                    self.assertLessEqual(len(node.generators[0].ifs), 1, name)

    def test_functions_are_plain(self):
        for name, tree in trees():
            for node in ast.walk(tree):
                if isinstance(node, ast.FunctionDef):
                    given = node.args
                    self.assertEqual(given.posonlyargs + given.kwonlyargs + given.defaults, [], (name, node.name))
                    self.assertEqual((given.vararg, given.kwarg), (None, None), (name, node.name))
                    self.assertEqual(node.decorator_list, [], (name, node.name))

    def test_names(self):
        for name, tree in trees():
            at_top = []
            for node in ast.walk(tree):
                if isinstance(node, ast.FunctionDef):
                    self.assert_free(node.name)
                elif isinstance(node, ast.arg):
                    self.assert_free(node.arg)
                elif isinstance(node, ast.Name) and isinstance(node.ctx, ast.Store):
                    self.assert_free(node.id)
            for node in tree.body:
                at_top += [node.name] if isinstance(node, ast.FunctionDef) else []
                at_top += [target.id for target in node.targets] if isinstance(node, ast.Assign) else []
            self.assertEqual(len(at_top), len(set(at_top)), name)

    def assert_free(self, word):
        self.assertRegex(word, r"\A[A-Za-z][A-Za-z0-9_]*\Z")
        self.assertFalse(hasattr(builtins, word), word)

    def test_sizes(self):
        for file in FILES:
            rows = file.read_text("utf-8").split("\n")
            self.assertLessEqual(len(rows), 401, file.name)
            self.assertLessEqual(max(len(row) for row in rows), 120, file.name)
        for name, tree in trees():
            for node in ast.walk(tree):
                if isinstance(node, ast.FunctionDef):
                    self.assertLessEqual(node.end_lineno - node.lineno + 1, 40, (name, node.name))

    def test_signs_and_words(self):
        for file in FILES:
            text = file.read_bytes().decode("utf-8")
            self.assertIsNone(re.search(r"[^ -~\n]", text), file.name)
            for word in re.findall(r"\w+", text):
                self.assertNotIn(word, WORDS, file.name)


if __name__ == "__main__":
    unittest.main()
