"""What the document promises over all functions."""

import contextlib
import io
import pathlib
import subprocess
import sys
import unittest

from by_the_words import Unchangeable, answer_of_read, drawn_from, every_note, handed_to_read, in_one_list, many_bars
from spellednotes import notes

TOP = pathlib.Path(notes.__file__).parent.parent

# Each with what it answers: ordinary ones, empty ones, refusals.
CALLS = (
    ("between", (0, 0, 4, 2, 0, 4), [0, 5, 2, 4, 1, 3, 1]),
    ("between", (2, 0, 4, 0, 0, 4), [0, 5, -2, -4, -1, 3, 1]),
    ("between", (0, 0, 4, 0, 0, 10), [-1]),
    ("move", (0, 0, 4, 2, 4), [0, 3, 2, 0, 4]),
    ("move", (0, 0, 4, 0, 4), [-6]),
    ("move", (0, 0, 4, 0, 201), [-1]),
    ("key", (0, 4, 7), [0, 1, 1]),
    ("key", (7, 4, 7), [0, 1, -4]),
    ("key", (8, 4, 7), [-1]),
    ("write", (0, [0]), [0]),
    ("write", (0, [2, 2, 3, 1, 4, 3, 1, 4, 1, 3, 0, 5]), [2, 10, 3, 4, 1, 1, 0, 3, 4, 0, 0, 0, 5, 3, 5, 0, 0, 1]),
    ("write", (0, [1, 1, 3, 0, 5]), [1, 5, 3, 5, 0, 0, 0]),
    ("write", (0, [1, 1, 3, 4, 4]), [-1]),
    ("read", (0, [0]), [0]),
    ("read", (0, [2, 2, 3, 4, 1, 1, 3, 4, 0, 1, 3, 4, 0]), [2, 6, 3, 1, 4, 3, 1, 4, 3, 3, 0, 4]),
    ("read", (1, [1, 1, 3, 4, 0]), [1, 3, 3, 1, 4]),
    ("read", (0, [1, 1, 3, 4, 1, 4]), [-1]),
    ("spell", (1, 1, 1, 1, 0, []), [0]),
    ("spell", (1, 1, 1, 1, 0, [60, 61]), [3, 3, 0, 0, 4, 3, 1, -1, 4]),
    ("spell", (0, 0, 0, 0, 0, [60]), [0, 3, 5, 3, 3]),
    ("spell", (1, 1, 1, 1, 0, [128]), [-1]),
    ("part", (0, 0, 0, 127, 3, []), [0, 1, 3]),
    ("part", (1, 2, 50, 94, -1, [0, 0, 4, 0, 0, 3]), [1, 1, 1, 4, 1, 0, 4, 1, 4, 1, 0, 3, 0]),
    ("part", (7, 12, 0, 127, 0, [1, 0, 9]), [0, 1, 0, 4, 0, 2, 10, 1]),
    ("part", (1, 2, 0, 127, 0, [0, 0, 10]), [-1]),
)


def called(name, arguments):
    """The answer to arguments that are copied, so that CALLS stays what it is."""
    copies = [list(argument) if isinstance(argument, list) else argument for argument in arguments]
    return getattr(notes, name)(*copies)


class EachByItselfTest(unittest.TestCase):
    def test_answers(self):
        for name, arguments, answer in CALLS:
            with self.subTest(name=name, arguments=arguments):
                self.assertEqual(called(name, arguments), answer)

    def test_answers_are_lists_of_whole_numbers(self):
        for name, arguments, answer in CALLS:
            with self.subTest(name=name, arguments=arguments):
                found = called(name, arguments)
                self.assertIs(type(found), list)
                self.assertEqual({type(number) for number in found}, {int})

    def test_same_whatever_was_called_between(self):
        for name, arguments, answer in CALLS:
            for other_name, other_arguments, other_answer in CALLS:
                called(name, arguments).append(99)
                called(other_name, other_arguments).clear()
                if called(name, arguments) != answer:
                    self.fail(f"{name} of {arguments} answers otherwise after {other_name} of {other_arguments}")

    def test_what_is_handed_in_stays(self):
        for name, arguments, answer in CALLS:
            lists = [Unchangeable(argument) if isinstance(argument, list) else argument for argument in arguments]
            with self.subTest(name=name, arguments=arguments):
                found = getattr(notes, name)(*lists)
                found.append(99)
                self.assertEqual(lists, list(arguments))
                self.assertEqual(found[:-1], answer)

    def test_the_same_list_may_be_handed_in_again(self):
        for name, arguments, answer in CALLS:
            with self.subTest(name=name, arguments=arguments):
                copies = [list(argument) if isinstance(argument, list) else argument for argument in arguments]
                for times in range(3):
                    self.assertEqual(getattr(notes, name)(*copies), answer)


class PrintedTest(unittest.TestCase):
    def test_nothing_is_printed(self):
        printed = io.StringIO()
        with contextlib.redirect_stdout(printed), contextlib.redirect_stderr(printed):
            for name, arguments, answer in CALLS:
                called(name, arguments)
        self.assertEqual(printed.getvalue(), "")

    def test_nothing_is_printed_or_read_in_a_process_of_its_own(self):
        lines = ["from spellednotes import notes"]
        lines.extend(f"notes.{name}(*{arguments!r})" for name, arguments, answer in CALLS)
        ended = subprocess.run(
            [sys.executable, "-B", "-c", "\n".join(lines)],
            cwd=TOP, stdin=subprocess.DEVNULL, stdout=subprocess.PIPE, stderr=subprocess.STDOUT, check=False,
        )
        self.assertEqual((ended.returncode, ended.stdout), (0, b""))


class MovedBackTest(unittest.TestCase):
    def test_wherever_move_tells_a_note(self):
        drawn = drawn_from(7)
        every = every_note()
        some = [drawn(every) for times in range(12)]
        for note in some + [every[0], every[-1]]:
            told = 0
            for steps in range(-100, 101):
                for halves in range(-200, 201):
                    answer = notes.move(*note, steps, halves)
                    if answer[0] == 0:
                        told += 1
                        if notes.move(*answer[2:], -steps, -halves) != [0, 3, *note]:
                            self.fail(f"{note} moved by {steps}, {halves} and back is another")
            self.assertEqual(told, len(every))

    def test_between_tells_how_far_it_was_moved(self):
        for note in every_note():
            for steps, halves in ((0, 0), (0, 1), (1, 2), (-1, -1), (4, 7), (-5, -9), (7, 12), (9, 16)):
                answer = notes.move(*note, steps, halves)
                if answer[0] == 0 and notes.between(*note, *answer[2:])[2:4] != [steps, halves]:
                    self.fail(f"from {note} to {answer[2:]} are not {steps}, {halves}")

    def test_parts_moved_back_are_the_same(self):
        for note in every_note():
            answer = notes.part(1, 2, 0, 127, 0, list(note))
            if notes.move(*note, 1, 2)[0] == 0:
                self.assertEqual(notes.part(-1, -2, 0, 127, 0, answer[4:7])[4:7], list(note))


class ReadAsItWasTest(unittest.TestCase):
    def test_what_write_tells(self):
        for in_key in range(-7, 8):
            for raisings in (range(-3, 4), (-1, 0, 1), (0, 0, 0, 1)):
                bars = many_bars(in_key + 100, 20, 12, range(7), raisings, range(3, 6))
                written = notes.write(in_key, in_one_list(bars))
                self.assertEqual(notes.read(in_key, handed_to_read(written)), answer_of_read(bars))

    def test_no_sign_too_many(self):
        # Without any one of the signs the bars would be read otherwise.
        for in_key in (-7, -2, 0, 3, 7):
            bars = many_bars(in_key + 200, 5, 8, range(7), (-1, 0, 1), (4, 5))
            written = notes.write(in_key, in_one_list(bars))
            place = 1
            for notes_in_bar in bars:
                for start in range(place + 1, place + 1 + 5 * len(notes_in_bar), 5):
                    if written[start + 2]:
                        fewer = written[:start + 2] + [0, 0] + written[start + 4:]
                        self.assertNotEqual(notes.read(in_key, handed_to_read(fewer)), answer_of_read(bars))
                place += 1 + 5 * len(notes_in_bar)

    def test_what_is_spelled_is_written_and_read_as_it_was(self):
        drawn = drawn_from(8)
        for in_key in range(-7, 8):
            spelled = notes.spell(3, 2, 1, 4, in_key, [drawn(range(128)) for place in range(40)])
            bar = [tuple(spelled[start + 1:start + 4]) for start in range(1, len(spelled), 4)]
            written = notes.write(in_key, in_one_list([bar]))
            self.assertEqual(notes.read(in_key, handed_to_read(written)), answer_of_read([bar]))


if __name__ == "__main__":
    unittest.main()
