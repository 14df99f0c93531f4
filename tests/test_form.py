"""What can be seen of the package without knowing what its functions answer."""

import ast
import inspect
import pathlib
import re
import unittest

import spellednotes
from spellednotes import notes

PACKAGE = pathlib.Path(spellednotes.__file__).parent
FILES = sorted(path for path in PACKAGE.rglob("*") if "__pycache__" not in path.parts)
NOT_CALLED = ("print", "open", "input", "exec", "eval", "compile", "globals", "setattr")
WORDS_LEFT_OUT = re.compile(
    r"\b(type|typing|typing_extensions|enum|Enum|IntEnum|StrEnum|Flag|IntFlag|Generic|Protocol|ABC|ABCMeta"
    r"|namedtuple|NamedTuple|TypedDict|TYPE_CHECKING|abstractmethod)\b|dataclass|overload|contextmanager"
)


class InterfaceTest(unittest.TestCase):
    def test_arguments(self):
        expected = {
            "between": ["letter", "raised", "octave", "letter_two", "raised_two", "octave_two"],
            "move": ["letter", "raised", "octave", "steps", "halves"],
            "key": ["in_key", "steps", "halves"],
            "write": ["in_key", "bars"],
            "read": ["in_key", "bars"],
            "spell": ["sign", "apart", "far", "same", "in_key", "numbers"],
            "part": ["steps", "halves", "lowest", "highest", "in_key", "notes"],
        }
        for name, arguments in expected.items():
            with self.subTest(name=name):
                self.assertEqual(list(inspect.signature(getattr(notes, name)).parameters), arguments)


class FilesTest(unittest.TestCase):
    def test_package_holds_python_files_alone(self):
        for path in FILES:
            with self.subTest(path=path.name):
                self.assertTrue(path.is_file())
                self.assertRegex(path.name, r"\A[a-z_][a-z0-9_]*\.py\Z")

    def test_nothing_is_imported_or_done_besides(self):
        for path in FILES:
            for node in ast.walk(ast.parse(path.read_text("ascii"))):
                self.assertNotIsInstance(node, (ast.Import, ast.ImportFrom, ast.Global, ast.Nonlocal), path.name)
                if isinstance(node, ast.Name):
                    self.assertNotIn(node.id, NOT_CALLED, path.name)

    def test_signs_words_and_sizes(self):
        for path in FILES:
            text = path.read_bytes().decode("ascii")
            with self.subTest(path=path.name):
                self.assertIsNone(re.search(r"[^ -~\n]", text))
                self.assertIsNone(WORDS_LEFT_OUT.search(text))
                self.assertLessEqual(len(text.splitlines()), 400)
                self.assertLessEqual(max(len(line) for line in text.splitlines()), 120)

    def test_functions_are_small(self):
        for path in FILES:
            for node in ast.walk(ast.parse(path.read_text("ascii"))):
                if isinstance(node, ast.FunctionDef):
                    self.assertLessEqual(node.end_lineno - node.lineno + 1, 40, node.name)


if __name__ == "__main__":
    unittest.main()
