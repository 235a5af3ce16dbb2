"""What the interface and the language say of the package's own files."""

import ast
import pathlib
import re
import unittest

import forcednodes

FOLDER = pathlib.Path(forcednodes.__file__).parent
FILES = sorted(FOLDER.rglob("*.py"))
OWN_NAMES = (
    "len range enumerate zip min max sum abs sorted reversed int str bool list tuple dict set frozenset isinstance "
    "ord repr any all divmod"
).split()
OWN_METHODS = (
    "append clear copy count endswith extend find get index insert isalnum isalpha isdigit islower isspace isupper "
    "items join keys ljust lower lstrip partition pop remove replace reverse rfind rjust rpartition rsplit rstrip "
    "setdefault split splitlines startswith strip update upper values zfill bit_length"
).split()
WORDS = (
    "type typing typing_extensions enum Enum IntEnum StrEnum Flag IntFlag Generic Protocol ABC ABCMeta namedtuple "
    "NamedTuple TypedDict TYPE_CHECKING abstractmethod"
).split()


def trees():
    return [(file.name, ast.parse(file.read_text("utf-8"))) for file in FILES]


class Form(unittest.TestCase):
    def test_only_these_files(self):
        lying = sorted(file.name for file in FOLDER.iterdir() if file.name != "__pycache__")
        self.assertEqual(lying, ["__init__.py", "forcing.py"])

    def test_it_imports_nothing(self):
        for name, tree in trees():
            for node in ast.walk(tree):
                self.assertNotIsInstance(node, (ast.Import, ast.ImportFrom), name)

    def test_it_calls_only_its_own_and_a_few_of_pythons(self):
        for name, tree in trees():
            own = [node.name for node in ast.walk(tree) if isinstance(node, ast.FunctionDef)]
            for node in ast.walk(tree):
                if isinstance(node, ast.Call) and isinstance(node.func, ast.Name):
                    self.assertIn(node.func.id, own + OWN_NAMES, name)

    def test_it_has_only_methods_of_pythons_own_values_that_may_be_used(self):
        for name, tree in trees():
            for node in ast.walk(tree):
                if isinstance(node, ast.Attribute):
                    self.assertIn(node.attr, OWN_METHODS, name)

    def test_sizes(self):
        for file in FILES:
            rows = file.read_text("utf-8").split("\n")
            self.assertLessEqual(len(rows), 401, file.name)
            self.assertLessEqual(max(len(row) for row in rows), 120, file.name)
        for name, tree in trees():
            for node in ast.walk(tree):
                if isinstance(node, ast.FunctionDef):
                    self.assertLessEqual(node.end_lineno - node.lineno + 1, 40, (name, node.name))

    def test_signs_and_words(self):
        for file in FILES:
            text = file.read_bytes().decode("utf-8")
            self.assertIsNone(re.search(r"[^ -~\n]", text), file.name)
            for word in re.findall(r"\w+", text):
                self.assertNotIn(word, WORDS, file.name)


if __name__ == "__main__":
    unittest.main()
