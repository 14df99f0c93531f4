"""What can be seen of the package without knowing what its functions answer."""

import ast
import contextlib
import inspect
import io
import pathlib
import re
import unittest

import spellednotes
from spellednotes import notes

PACKAGE = pathlib.Path(spellednotes.__file__).parent
FILES = sorted(path for path in PACKAGE.rglob("*") if "__pycache__" not in path.parts)
NOT_CALLED = ("print", "open", "input", "exec", "eval", "compile", "globals", "setattr")
WORDS_LEFT_OUT = re.compile(
    r"\b(type|typing|typing_extensions|enum|Enum|IntEnum|StrEnum|Flag|IntFlag|Generic|Protocol|ABC|ABCMeta"
    r"|namedtuple|NamedTuple|TypedDict|TYPE_CHECKING|abstractmethod)\b|dataclass|overload|contextmanager"
)


class InterfaceTest(unittest.TestCase):
    def test_arguments(self):
        expected = {
            "between": ["letter", "raised", "octave", "letter_two", "raised_two", "octave_two"],
            "move": ["letter", "raised", "octave", "steps", "halves"],
            "key": ["in_key", "steps", "halves"],
            "write": ["in_key", "bars"],
            "read": ["in_key", "bars"],
            "spell": ["sign", "apart", "far", "same", "in_key", "numbers"],
        }
        for name, arguments in expected.items():
            with self.subTest(name=name):
                self.assertEqual(list(inspect.signature(getattr(notes, name)).parameters), arguments)

    def test_answers_are_lists_of_whole_numbers(self):
        answers = (
            notes.between(0, 0, 4, 0, 0, 4),
            notes.between(0, 0, 4, 0, 0, 10),
            notes.move(0, 0, 4, 0, 0),
            notes.move(0, 0, 4, 0, 4),
            notes.move(0, 0, 4, 0, 201),
            notes.key(0, 4, 7),
            notes.key(8, 4, 7),
            notes.write(0, [0]),
            notes.write(0, [2, 2, 3, 1, 4, 3, 1, 4, 2, 3, 0, 5, 4, 0, 5]),
            notes.write(0, [1, 1, 3, 4, 4]),
            notes.read(0, [0]),
            notes.read(1, [2, 2, 3, 4, 1, 1, 3, 4, 0, 1, 3, 4, 0]),
            notes.read(0, [1, 1, 3, 4, 1, 4]),
            notes.spell(1, 1, 1, 1, 0, []),
            notes.spell(1, 1, 1, 1, 0, [60, 61]),
            notes.spell(1, 1, 1, 1, 0, [128]),
        )
        for answer in answers:
            with self.subTest(answer=answer):
                self.assertIs(type(answer), list)
                self.assertEqual({type(number) for number in answer}, {int})

    def test_nothing_is_printed(self):
        printed = io.StringIO()
        with contextlib.redirect_stdout(printed), contextlib.redirect_stderr(printed):
            notes.between(0, 0, 4, 2, 0, 4)
            notes.between(7, 0, 4, 2, 0, 4)
            notes.move(0, 0, 4, 2, 4)
            notes.move(0, 0, 4, 0, 4)
            notes.move(7, 0, 4, 0, 4)
            notes.key(0, 4, 7)
            notes.key(8, 4, 7)
            notes.write(0, [2, 1, 3, 1, 4, 1, 3, 0, 4])
            notes.write(0, [1, 1, 7, 0, 4])
            notes.read(0, [2, 1, 3, 4, 1, 1, 1, 3, 4, 0])
            notes.read(0, [1, 1, 7, 4, 0])
            notes.spell(1, 1, 1, 1, 0, [60, 61])
            notes.spell(1, 1, 1, 1, 0, [128])
        self.assertEqual(printed.getvalue(), "")


class FilesTest(unittest.TestCase):
    def test_package_holds_python_files_alone(self):
        for path in FILES:
            with self.subTest(path=path.name):
                self.assertTrue(path.is_file())
                self.assertRegex(path.name, r"\A[a-z_][a-z0-9_]*\.py\Z")

    def test_nothing_is_imported_or_done_besides(self):
        for path in FILES:
            for node in ast.walk(ast.parse(path.read_text("ascii"))):
                self.assertNotIsInstance(node, (ast.Import, ast.ImportFrom, ast.Global, ast.Nonlocal), path.name)
                if isinstance(node, ast.Name):
                    self.assertNotIn(node.id, NOT_CALLED, path.name)

    def test_signs_words_and_sizes(self):
        for path in FILES:
            text = path.read_bytes().decode("ascii")
            with self.subTest(path=path.name):
                self.assertIsNone(re.search(r"[^ -~\n]", text))
                self.assertIsNone(WORDS_LEFT_OUT.search(text))
                self.assertLessEqual(len(text.splitlines()), 400)
                self.assertLessEqual(max(len(line) for line in text.splitlines()), 120)

    def test_functions_are_small(self):
        for path in FILES:
            for node in ast.walk(ast.parse(path.read_text("ascii"))):
                if isinstance(node, ast.FunctionDef):
                    self.assertLessEqual(node.end_lineno - node.lineno + 1, 40, node.name)


if __name__ == "__main__":
    unittest.main()
