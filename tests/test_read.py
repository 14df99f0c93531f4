import unittest

from by_the_words import A, B, C, D, E, F, G, NO_KEYS, NO_LETTERS, NO_OCTAVES, NO_RAISINGS
from by_the_words import Unchangeable, answer_of_read, by_key, handed_to_read, in_one_list, many_bars
from by_the_words import written_in_one_list
from spellednotes.notes import read, write


def notes_by_the_words(in_key, bars):
    """The notes of each bar, found for each by looking back over all that's written ahead of it."""
    found = []
    for written in bars:
        notes = []
        for letter, octave, sign in written:
            ahead = [note[1] for note in notes if (note[0], note[2]) == (letter, octave)]
            in_force = ahead[-1] if ahead else by_key(in_key, letter)
            notes.append((letter, in_force if sign is None else sign, octave))
        found.append(notes)
    return found


def many_written(seed, bars, most_notes, letters, signs, octaves):
    return [
        [(letter, octave, sign) for letter, sign, octave in written]
        for written in many_bars(seed, bars, most_notes, letters, signs, octaves)
    ]


class ReadCase(unittest.TestCase):
    def check(self, in_key, bars, expected):
        with self.subTest(in_key=in_key, bars=bars):
            self.assertEqual(read(in_key, written_in_one_list(bars)), answer_of_read(expected))

    def check_raised(self, in_key, written, raised):
        self.check(in_key, [written], [[
            (letter, by, octave) for (letter, octave, sign), by in zip(written, raised, strict=True)
        ]])


class FormTest(ReadCase):
    def test_number_by_number(self):
        bars = [2, 3, F, 4, 1, 1, F, 4, 0, G, 5, 0, 1, F, 4, 0]
        self.assertEqual(read(0, bars), [2, 9, F, 1, 4, F, 1, 4, G, 0, 5, 3, F, 0, 4])

    def test_no_bar(self):
        for in_key in range(-7, 8):
            self.assertEqual(read(in_key, [0]), [0])

    def test_bars_without_notes(self):
        with_sign, without = (C, 4, 1), (C, 4, None)
        raised, plain = (C, 1, 4), (C, 0, 4)
        self.assertEqual(read(0, [1, 0]), [1, 0])
        self.check(0, [[]], [[]])
        self.check(0, [[], []], [[], []])
        self.check(0, [[], [with_sign]], [[], [raised]])
        self.check(0, [[with_sign], []], [[raised], []])
        self.check(0, [[with_sign], [], [without]], [[raised], [], [plain]])
        self.check(0, [[without], [], [with_sign]], [[plain], [], [raised]])
        self.check(0, [[], [with_sign], [], [], [without], []], [[], [raised], [], [], [plain], []])

    def test_notes_of_three_and_of_four_numbers(self):
        self.check_raised(0, [(C, 4, None), (D, 4, None), (E, 4, None)], [0, 0, 0])
        self.check_raised(0, [(C, 4, 1), (D, 4, 0), (E, 4, -1)], [1, 0, -1])
        self.check_raised(0, [(C, 4, 1), (D, 4, None), (E, 4, -1), (F, 5, None)], [1, 0, -1, 0])
        self.check_raised(0, [(C, 4, None), (D, 4, 1), (E, 4, None), (F, 5, 2)], [0, 1, 0, 2])
        self.check(0, [[(C, 4, None), (D, 4, 1)], [(D, 4, 1), (C, 4, None)], [(B, 3, None)]],
                   [[(C, 0, 4), (D, 1, 4)], [(D, 1, 4), (C, 0, 4)], [(B, 0, 3)]])

    def test_order_of_the_notes_stays(self):
        self.check_raised(0, [(G, 5, None), (C, 3, 1), (A, 4, -1), (C, 4, None)], [0, 1, -1, 0])


class InForceTest(ReadCase):
    def test_keys_written_out(self):
        rows = (
            (-7, (-1, -1, -1, -1, -1, -1, -1)),
            (-6, (-1, -1, -1, 0, -1, -1, -1)),
            (-4, (0, -1, -1, 0, 0, -1, -1)),
            (-1, (0, 0, 0, 0, 0, 0, -1)),
            (0, (0, 0, 0, 0, 0, 0, 0)),
            (1, (0, 0, 0, 1, 0, 0, 0)),
            (3, (1, 0, 0, 1, 1, 0, 0)),
            (6, (1, 1, 1, 1, 1, 1, 0)),
            (7, (1, 1, 1, 1, 1, 1, 1)),
        )
        for in_key, row in rows:
            self.check_raised(in_key, [(letter, 4, None) for letter in range(7)], row)

    def test_each_key_letter_and_octave(self):
        for in_key in range(-7, 8):
            for letter in range(7):
                for octave in range(-1, 10):
                    self.check_raised(in_key, [(letter, octave, None)], [by_key(in_key, letter)])

    def test_every_sign_in_every_key(self):
        for in_key in range(-7, 8):
            for sign in range(-3, 4):
                self.check_raised(in_key, [(F, 4, sign), (B, 4, sign), (F, 4, None)], [sign, sign, sign])

    def test_sign_holds_on(self):
        self.check_raised(0, [(F, 4, 1), (F, 4, None), (F, 4, None)], [1, 1, 1])
        self.check_raised(0, [(F, 4, 1), (G, 4, None), (C, 5, -1), (F, 4, None)], [1, 0, -1, 1])
        self.check_raised(7, [(F, 4, -3), (F, 4, None)], [-3, -3])

    def test_not_ahead_of_it(self):
        self.check_raised(0, [(F, 4, None), (F, 4, 1), (F, 4, None)], [0, 1, 1])
        self.check_raised(1, [(F, 4, None), (F, 4, 0), (F, 4, None)], [1, 0, 0])

    def test_sign_of_none_against_the_key(self):
        self.check_raised(1, [(F, 4, 0), (F, 4, None), (F, 5, None)], [0, 0, 1])
        self.check_raised(-1, [(B, 4, 0), (B, 4, None), (B, 3, None)], [0, 0, -1])

    def test_sign_again_over_another(self):
        self.check_raised(0, [(F, 4, 1), (F, 4, -1), (F, 4, None)], [1, -1, -1])
        self.check_raised(0, [(F, 4, 1), (F, 4, 0), (F, 4, None)], [1, 0, 0])
        self.check_raised(0, [(F, 4, 2), (F, 4, None), (F, 4, 3), (F, 4, None), (F, 4, 3)], [2, 2, 3, 3, 3])
        self.check_raised(-7, [(F, 4, 0), (F, 4, -1), (F, 4, None)], [0, -1, -1])

    def test_not_for_other_octaves(self):
        self.check_raised(0, [(F, 4, 1), (F, 5, None), (F, 3, None), (F, 4, None)], [1, 0, 0, 1])
        self.check_raised(2, [(C, -1, 0), (C, 9, None), (C, 9, -1), (C, -1, None)], [0, 1, -1, 0])

    def test_not_for_other_letters(self):
        self.check_raised(0, [(F, 4, 1), (E, 4, None), (G, 4, None), (F, 4, None)], [1, 0, 0, 1])
        self.check_raised(0, [(B, 3, 1), (C, 4, None), (B, 4, None), (C, 3, None)], [1, 0, 0, 0])
        self.check_raised(0, [(C, 0, 1), (B, -1, None), (A, -1, None)], [1, 0, 0])

    def test_not_in_the_next_bar(self):
        self.check(0, [[(F, 4, 1)], [(F, 4, None)]], [[(F, 1, 4)], [(F, 0, 4)]])
        self.check(1, [[(F, 4, 0)], [(F, 4, None)]], [[(F, 0, 4)], [(F, 1, 4)]])
        self.check(-7, [[(F, 4, 3)], [(F, 4, None), (F, 4, 0)], [(F, 4, None)]],
                   [[(F, 3, 4)], [(F, -1, 4), (F, 0, 4)], [(F, -1, 4)]])

    def test_sign_too_many_is_read(self):
        self.check_raised(1, [(F, 4, 1), (F, 4, 1), (F, 4, None)], [1, 1, 1])
        self.check_raised(0, [(F, 4, 0), (F, 4, None)], [0, 0])


class RefusedTest(ReadCase):
    bars = (((F, 4, 1), (F, 4, None), (G, 4, None)), (), ((A, 4, 0),), ((F, 4, None), (B, -1, -3), (C, 9, 3)))

    def check_refused(self, in_key, bars):
        with self.subTest(in_key=in_key, bars=bars):
            self.assertEqual(read(in_key, written_in_one_list(bars)), [-1])

    def test_the_bars_are_else_taken(self):
        self.check(0, self.bars, notes_by_the_words(0, self.bars))

    def test_wrong_in_each_place(self):
        for number, written in enumerate(self.bars):
            for place, note in enumerate(written):
                for part, outside in enumerate((NO_LETTERS, NO_OCTAVES, NO_RAISINGS)):
                    for wrong in outside:
                        bars = [[list(other) for other in bar] for bar in self.bars]
                        bars[number][place][part] = wrong
                        self.check_refused(0, bars)

    def test_wrong_letter_or_octave_with_and_without_a_sign(self):
        for sign in (None, 0, 1):
            for letter in NO_LETTERS:
                self.check_refused(0, [[(letter, 4, sign)]])
            for octave in NO_OCTAVES:
                self.check_refused(0, [[(C, octave, sign)]])

    def test_wrong_last_bar(self):
        taken = [[(C, 4, 1), (C, 4, None)] for bar in range(59)]
        self.check_refused(0, taken + [[(C, 4, 4)]])
        self.check_refused(0, taken + [[(C, 4, None)] * 59 + [(C, 10, None)]])

    def test_wrong_key(self):
        for in_key in NO_KEYS:
            self.check_refused(in_key, self.bars)
            self.check_refused(in_key, [[(C, 4, 0)]])
            self.check_refused(in_key, [[], []])
            self.check_refused(in_key, [])

    def test_wrong_key_and_note(self):
        self.check_refused(8, [[(7, 4, None)]])
        self.check_refused(-8, [[(C, 4, -4)]])

    def test_ends_are_taken(self):
        for in_key in (-7, 7):
            self.check_raised(in_key, [(C, -1, 3), (B, 9, -3)], [3, -3])


class WholeTest(ReadCase):
    def check_by_the_words(self, in_key, bars):
        if read(in_key, written_in_one_list(bars)) != answer_of_read(notes_by_the_words(in_key, bars)):
            self.fail(f"in {in_key} not read by the words: {bars}")

    def check_written_and_read(self, in_key, bars):
        written = handed_to_read(write(in_key, in_one_list(bars)))
        if read(in_key, written) != answer_of_read(bars):
            self.fail(f"in {in_key} not read as they were: {bars}")

    def test_many_bars_by_the_words(self):
        signs = (None, None, None, -3, -2, -1, 0, 1, 2, 3)
        for seed in range(60):
            in_key = seed % 15 - 7
            self.check_by_the_words(in_key, many_written(seed, 12, 8, range(7), signs, range(-1, 10)))
            self.check_by_the_words(in_key, many_written(seed, 12, 8, (B, C, F), (None, -1, 0, 1), (3, 4)))

    def test_sixty_bars_of_sixty_notes(self):
        for in_key in (-7, -3, 0, 4, 7):
            every_sign = [
                [((place * 3 + bar) % 7, (place + bar * bar) % 11 - 1, (place * bar) % 7 - 3) for place in range(60)]
                for bar in range(60)
            ]
            self.assertEqual(len(written_in_one_list(every_sign)), 14461)
            self.assertEqual(len(read(in_key, written_in_one_list(every_sign))), 1 + 60 * (1 + 60 * 3))
            self.check_by_the_words(in_key, every_sign)
            self.check_by_the_words(in_key, [
                [(letter, octave, sign if letter % 2 else None) for letter, octave, sign in written]
                for written in every_sign
            ])
            self.check_by_the_words(in_key, [[(place % 7, 4, None) for place in range(60)]] * 60)

    def test_what_write_tells_is_read_as_it_was(self):
        for seed in range(60):
            in_key = seed % 15 - 7
            self.check_written_and_read(in_key, many_bars(seed, 15, 10, range(7), range(-3, 4), range(-1, 10)))
            self.check_written_and_read(in_key, many_bars(seed, 15, 10, (B, C, F), (-1, 0, 1), (3, 4)))
        self.check_written_and_read(0, [])
        self.check_written_and_read(3, [[], [(F, 0, 4), (F, 1, 4)], [], [(F, 1, 4)], []])

    def test_most_that_write_tells_is_read_as_it_was(self):
        bars = [[((place * 5 + bar) % 7, place % 3 - 1, place % 2 + 3) for place in range(60)] for bar in range(60)]
        for in_key in (-7, 0, 7):
            self.check_written_and_read(in_key, bars)

    def test_what_is_handed_in_stays(self):
        numbers = written_in_one_list([[(F, 4, 1), (F, 4, None)], [], [(F, 5, 0)]])
        copy = list(numbers)
        answer = read(0, numbers)
        self.assertEqual(numbers, copy)
        answer.append(99)
        answer[0] = 99
        self.assertEqual(numbers, copy)

    def test_what_is_handed_in_is_not_changed_for_a_while(self):
        bars = [[(F, 4, 1), (F, 4, None)], [], [(F, 5, 0)], [(C, 4, None)]]
        answer = read(0, Unchangeable(written_in_one_list(bars)))
        self.assertEqual(answer, answer_of_read(notes_by_the_words(0, bars)))
        self.assertEqual(read(0, Unchangeable(written_in_one_list(bars + [[(C, 4, 4)]]))), [-1])

    def test_nothing_is_kept(self):
        bars = written_in_one_list([[(F, 4, None)], [(G, 4, None)]])
        fresh = read(0, bars)
        self.assertEqual(fresh, [2, 3, F, 0, 4, 3, G, 0, 4])
        read(0, written_in_one_list([[(F, 4, 1)]])).append(99)
        read(0, written_in_one_list([[(F, 4, 1)], [(F, 10, 1)]]))
        read(7, written_in_one_list([[(F, 4, 0)]]))
        self.assertEqual(read(0, bars), fresh)


if __name__ == "__main__":
    unittest.main()
