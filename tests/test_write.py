import unittest

from by_the_words import A, B, C, D, E, F, G, NO_KEYS, NO_LETTERS, NO_OCTAVES, NO_RAISINGS
from by_the_words import Unchangeable, by_key, in_one_list, many_bars
from spellednotes.notes import write


def written_by_the_words(in_key, bars):
    """What write is to answer, found for each note by looking back over all notes ahead of it."""
    answer = [len(bars)]
    for number, notes in enumerate(bars):
        before = bars[number - 1] if number else []
        answer.append(5 * len(notes))
        for place, (letter, raised, octave) in enumerate(notes):
            ahead = [other[1] for other in notes[:place] if (other[0], other[2]) == (letter, octave)]
            usual = by_key(in_key, letter)
            in_force = ahead[-1] if ahead else usual
            sign = [0, 0] if in_force == raised else [1, raised]
            otherwise = [other for other in before if other[0] == letter and other[1] != usual]
            warned = raised == usual and not ahead and otherwise
            answer.extend([letter, octave, *sign, 1 if warned else 0])
    return answer


class WriteCase(unittest.TestCase):
    def check(self, in_key, bars, expected):
        """Each note that's expected: letter, octave, its sign or None, 1 if it's warned of, else 0."""
        answer = [len(expected)]
        for notes in expected:
            answer.append(5 * len(notes))
            for letter, octave, sign, warned in notes:
                answer.extend([letter, octave, *((0, 0) if sign is None else (1, sign)), warned])
        with self.subTest(in_key=in_key, bars=bars):
            self.assertEqual(write(in_key, in_one_list(bars)), answer)

    def check_signs(self, in_key, notes, signs):
        self.check(in_key, [notes], [[(note[0], note[2], sign, 0) for note, sign in zip(notes, signs, strict=True)]])

    def check_warned(self, in_key, bars, warned):
        """Looks at the last bar alone, and there only at what's warned of."""
        answer = write(in_key, in_one_list(bars))
        start = len(answer) - 5 * len(bars[-1])
        with self.subTest(in_key=in_key, bars=bars):
            self.assertEqual(answer[start + 4::5], warned)


class FormTest(WriteCase):
    def test_number_by_number(self):
        bars = [2, 2, F, 1, 4, F, 1, 4, 1, F, 0, 5]
        self.assertEqual(write(0, bars), [2, 10, F, 4, 1, 1, 0, F, 4, 0, 0, 0, 5, F, 5, 0, 0, 1])

    def test_no_bar(self):
        for in_key in range(-7, 8):
            self.assertEqual(write(in_key, [0]), [0])

    def test_bars_without_notes(self):
        note = (C, 1, 4)
        written = (C, 4, 1, 0)
        self.check(0, [[]], [[]])
        self.check(0, [[], []], [[], []])
        self.check(0, [[], [note]], [[], [written]])
        self.check(0, [[note], []], [[written], []])
        self.check(0, [[note], [], [note]], [[written], [], [written]])
        self.check(0, [[], [note], [], [], [note], []], [[], [written], [], [], [written], []])

    def test_order_of_the_notes_stays(self):
        self.check_signs(0, [(G, 0, 5), (C, 1, 3), (A, -1, 4), (C, 0, 4)], [None, 1, -1, None])


class SignsTest(WriteCase):
    def test_where_the_key_has_it_otherwise(self):
        self.check_signs(0, [(F, 1, 4), (B, -1, 4), (C, 0, 4)], [1, -1, None])
        self.check_signs(1, [(F, 0, 4), (C, 1, 4), (B, 0, 4)], [0, 1, None])
        self.check_signs(-1, [(B, 0, 4), (E, -1, 4), (F, 0, 4)], [0, -1, None])

    def test_none_where_the_key_has_it_so(self):
        self.check_signs(2, [(F, 1, 4), (C, 1, 4), (G, 0, 4), (B, 0, 4)], [None] * 4)
        self.check_signs(-2, [(B, -1, 4), (E, -1, 4), (A, 0, 4), (F, 0, 4)], [None] * 4)

    def test_each_key_and_letter(self):
        for in_key in range(-7, 8):
            for letter in range(7):
                usual = by_key(in_key, letter)
                for raised in range(-3, 4):
                    self.check_signs(in_key, [(letter, raised, 4)], [None if raised == usual else raised])

    def test_keys_written_out(self):
        rows = (
            (-7, (-1, -1, -1, -1, -1, -1, -1)),
            (-6, (-1, -1, -1, 0, -1, -1, -1)),
            (-4, (0, -1, -1, 0, 0, -1, -1)),
            (-1, (0, 0, 0, 0, 0, 0, -1)),
            (0, (0, 0, 0, 0, 0, 0, 0)),
            (1, (0, 0, 0, 1, 0, 0, 0)),
            (3, (1, 0, 0, 1, 1, 0, 0)),
            (6, (1, 1, 1, 1, 1, 1, 0)),
            (7, (1, 1, 1, 1, 1, 1, 1)),
        )
        for in_key, row in rows:
            self.check_signs(in_key, [(letter, row[letter], 4) for letter in range(7)], [None] * 7)

    def test_every_sign(self):
        for in_key in (-7, 0, 7):
            for raised in range(-3, 4):
                for other in range(-3, 4):
                    if other != raised and raised != by_key(in_key, D):
                        self.check_signs(in_key, [(D, raised, 4), (D, other, 4)], [raised, other])

    def test_none_a_second_time(self):
        self.check_signs(0, [(F, 1, 4), (F, 1, 4), (F, 1, 4)], [1, None, None])
        self.check_signs(0, [(F, 1, 4), (G, 0, 4), (F, 1, 4)], [1, None, None])
        self.check_signs(7, [(F, 0, 4), (F, 0, 4)], [0, None])

    def test_one_again_when_it_goes_back(self):
        self.check_signs(0, [(F, 1, 4), (F, 0, 4), (F, 1, 4)], [1, 0, 1])
        self.check_signs(1, [(F, 1, 4), (F, 0, 4), (F, 1, 4), (F, 1, 4)], [None, 0, 1, None])
        self.check_signs(-7, [(F, -1, 4), (F, -2, 4), (F, -1, 4)], [None, -2, -1])

    def test_other_octaves_have_their_own(self):
        self.check_signs(0, [(F, 1, 4), (F, 1, 5), (F, 0, 3)], [1, 1, None])
        self.check_signs(0, [(F, 1, 4), (F, 0, 5), (F, 1, 4), (F, 1, 5)], [1, None, None, 1])
        self.check_signs(0, [(C, 1, -1), (C, 1, 9), (C, 1, -1), (C, 1, 9)], [1, 1, None, None])

    def test_neighbouring_steps_have_their_own(self):
        self.check_signs(0, [(B, 1, 3), (C, 1, 4), (B, 1, 4), (C, 1, 5)], [1, 1, 1, 1])
        self.check_signs(0, [(B, 1, -1), (C, 0, 0), (C, 1, 0), (B, 1, -1)], [1, None, 1, None])

    def test_next_bar_has_the_key_alone_in_force(self):
        self.check(0, [[(F, 1, 4)], [(F, 1, 4)]], [[(F, 4, 1, 0)], [(F, 4, 1, 0)]])
        self.check(0, [[(F, 1, 4)], [(F, 0, 4)]], [[(F, 4, 1, 0)], [(F, 4, None, 1)]])
        self.check(1, [[(F, 0, 4)], [(F, 1, 4)]], [[(F, 4, 0, 0)], [(F, 4, None, 1)]])
        self.check(1, [[(F, 0, 4)], [(F, 0, 4)]], [[(F, 4, 0, 0)], [(F, 4, 0, 0)]])


class WarnedTest(WriteCase):
    def test_same_octave(self):
        self.check_warned(0, [[(F, 1, 4)], [(F, 0, 4)]], [1])
        self.check_warned(3, [[(C, 0, 4)], [(C, 1, 4)]], [1])
        self.check_warned(-3, [[(B, -2, 4)], [(B, -1, 4)]], [1])

    def test_other_octaves(self):
        self.check_warned(0, [[(F, 1, 4)], [(F, 0, 5)]], [1])
        self.check_warned(0, [[(F, 1, -1)], [(F, 0, 9)]], [1])
        self.check_warned(0, [[(F, 1, 4)], [(F, 0, 5), (F, 0, 3), (F, 0, 4)]], [1, 1, 1])
        self.check_warned(0, [[(F, 0, 4), (F, 1, 5)], [(F, 0, 4)]], [1])

    def test_even_if_the_last_one_was_as_the_key_has_it(self):
        self.check_warned(0, [[(F, 1, 4), (F, 0, 4)], [(F, 0, 4)]], [1])
        self.check_warned(0, [[(F, 0, 4), (F, 1, 4), (F, 0, 4)], [(F, 0, 4)]], [1])
        self.check_warned(0, [[(F, 1, 4), (F, -1, 4), (F, 0, 4)], [(F, 0, 4)]], [1])

    def test_wherever_it_stands_in_its_bar(self):
        self.check_warned(0, [[(C, 0, 4), (F, 1, 4), (G, 0, 4)], [(C, 0, 4), (G, 0, 4), (F, 0, 4)]], [0, 0, 1])

    def test_first_of_its_letter_in_its_octave_alone(self):
        self.check_warned(0, [[(F, 1, 4)], [(F, 0, 4), (F, 0, 4)]], [1, 0])
        self.check_warned(0, [[(F, 1, 4)], [(F, 1, 4), (F, 0, 4)]], [0, 0])
        self.check_warned(0, [[(F, 1, 4)], [(F, 0, 4), (F, 1, 4), (F, 0, 4)]], [1, 0, 0])
        self.check_warned(0, [[(F, 1, 4)], [(F, 1, 4), (F, 0, 5), (F, 0, 4)]], [0, 1, 0])

    def test_none_with_a_sign(self):
        self.check_warned(0, [[(F, 1, 4)], [(F, -1, 4)]], [0])
        self.check_warned(0, [[(F, 1, 4)], [(F, 1, 5)]], [0])
        self.check_warned(1, [[(F, 0, 4)], [(F, 0, 4)]], [0])
        self.check_warned(1, [[(F, 2, 4)], [(F, 0, 4)]], [0])

    def test_none_of_another_letter(self):
        self.check_warned(0, [[(F, 1, 4)], [(E, 0, 4), (G, 0, 4)]], [0, 0])
        self.check_warned(0, [[(B, 1, 3)], [(C, 0, 4)]], [0])

    def test_none_if_the_bar_before_had_it_as_the_key(self):
        self.check_warned(0, [[(F, 0, 4)], [(F, 0, 4)]], [0])
        self.check_warned(1, [[(F, 1, 4)], [(F, 1, 4)]], [0])
        self.check_warned(-7, [[(F, -1, 4)], [(F, -1, 5)]], [0])

    def test_none_of_two_bars_before(self):
        self.check_warned(0, [[(F, 1, 4)], [(G, 0, 4)], [(F, 0, 4)]], [0])
        self.check_warned(0, [[(F, 1, 4)], [(F, 0, 4)], [(F, 0, 4)]], [0])
        self.check_warned(0, [[(F, 1, 4)], [], [(F, 0, 4)]], [0])

    def test_none_of_the_same_bar_alone(self):
        self.check_warned(0, [[(F, 0, 4)], [(F, 1, 4), (F, 0, 5)]], [0, 0])
        self.check_warned(0, [[(F, 0, 4)], [(F, 1, 4), (F, 0, 4)]], [0, 0])
        self.check_warned(0, [[], [(F, 1, 4), (F, 0, 5)]], [0, 0])

    def test_none_in_the_first_bar(self):
        self.check_warned(0, [[(F, 0, 4), (F, 1, 5), (F, 0, 3)]], [0, 0, 0])
        self.check_warned(0, [[(F, 1, 4), (F, 0, 4)]], [0, 0])

    def test_none_of_the_bar_behind(self):
        self.check(0, [[(F, 0, 4)], [(F, 1, 4)]], [[(F, 4, None, 0)], [(F, 4, 1, 0)]])

    def test_each_bar_by_the_one_before(self):
        bars = [[(F, 1, 4)], [(F, 0, 4), (C, 1, 4)], [(F, 0, 4), (C, 0, 4)], [(C, 0, 4)]]
        self.check(0, bars, [
            [(F, 4, 1, 0)],
            [(F, 4, None, 1), (C, 4, 1, 0)],
            [(F, 4, None, 0), (C, 4, None, 1)],
            [(C, 4, None, 0)],
        ])


class RefusedTest(WriteCase):
    bars = (((F, 1, 4), (F, 0, 4), (G, 0, 4)), (), ((A, 0, 4),), ((F, 0, 4), (B, -3, -1), (C, 3, 9)))

    def check_refused(self, in_key, bars):
        with self.subTest(in_key=in_key, bars=bars):
            self.assertEqual(write(in_key, in_one_list(bars)), [-1])

    def test_the_bars_are_else_taken(self):
        self.assertEqual(write(0, in_one_list(self.bars)), written_by_the_words(0, self.bars))

    def test_wrong_note_in_each_place(self):
        for number, notes in enumerate(self.bars):
            for place in range(len(notes)):
                for part, outside in enumerate((NO_LETTERS, NO_RAISINGS, NO_OCTAVES)):
                    for wrong in outside:
                        bars = [[list(note) for note in bar] for bar in self.bars]
                        bars[number][place][part] = wrong
                        self.check_refused(0, bars)

    def test_wrong_key(self):
        for in_key in NO_KEYS:
            self.check_refused(in_key, self.bars)
            self.check_refused(in_key, [[(C, 0, 4)]])
            self.check_refused(in_key, [[], []])
            self.check_refused(in_key, [])

    def test_wrong_key_and_note(self):
        self.check_refused(8, [[(7, 0, 4)]])

    def test_ends_are_taken(self):
        notes = [(0, 3, -1), (6, -3, 9)]
        for in_key in (-7, 7):
            self.check_signs(in_key, notes, [3, -3])


class WholeTest(WriteCase):
    def check_by_the_words(self, in_key, bars):
        if write(in_key, in_one_list(bars)) != written_by_the_words(in_key, bars):
            self.fail(f"in {in_key} not written by the words: {bars}")

    def test_many_bars_by_the_words(self):
        for seed in range(60):
            in_key = seed % 15 - 7
            self.check_by_the_words(in_key, many_bars(seed, 12, 8, range(7), range(-3, 4), range(-1, 10)))
            self.check_by_the_words(in_key, many_bars(seed, 12, 8, (B, C, F), (-1, 0, 1), (3, 4)))

    def test_sixty_bars_of_sixty_notes(self):
        for in_key in (-7, -3, 0, 4, 7):
            bars = [
                [((place * 3 + bar) % 7, (place * bar) % 7 - 3, (place + bar * bar) % 11 - 1) for place in range(60)]
                for bar in range(60)
            ]
            self.assertEqual(len(in_one_list(bars)), 10861)
            self.assertEqual(len(write(in_key, in_one_list(bars))), 1 + 60 * (1 + 60 * 5))
            self.check_by_the_words(in_key, bars)
            self.check_by_the_words(in_key, [[(bar % 7, place % 2, 4) for place in range(60)] for bar in range(60)])

    def test_read_as_it_was(self):
        for seed in range(15):
            bars = many_bars(seed, 20, 10, range(7), (-1, 0, 1), (3, 4))
            numbers = write(seed - 7, in_one_list(bars))
            place = 1
            for notes in bars:
                self.assertEqual(numbers[place], 5 * len(notes))
                in_force = {}
                for number, note in enumerate(notes):
                    start = place + 1 + 5 * number
                    letter, octave, has_sign, sign, warned = numbers[start:start + 5]
                    as_before = in_force.get((letter, octave), by_key(seed - 7, letter))
                    raised = sign if has_sign else as_before
                    self.assertEqual((letter, raised, octave), note)
                    if has_sign:
                        self.assertNotEqual(sign, as_before)
                    in_force[letter, octave] = raised
                place += 1 + 5 * len(notes)
            self.assertEqual(place, len(numbers))

    def test_what_is_handed_in_stays(self):
        numbers = in_one_list([[(F, 1, 4), (F, 0, 4)], [], [(F, 0, 5)]])
        copy = list(numbers)
        answer = write(0, numbers)
        self.assertEqual(numbers, copy)
        answer.append(99)
        answer[0] = 99
        self.assertEqual(numbers, copy)

    def test_what_is_handed_in_is_not_changed_for_a_while(self):
        bars = [[(F, 1, 4), (F, 0, 4)], [], [(F, 0, 5)], [(C, 1, 4)]]
        self.assertEqual(write(0, Unchangeable(in_one_list(bars))), written_by_the_words(0, bars))
        self.assertEqual(write(0, Unchangeable(in_one_list(bars + [[(C, 4, 4)]]))), [-1])

    def test_nothing_is_kept(self):
        bars = [[(F, 0, 4)], [(G, 0, 4)]]
        fresh = write(0, in_one_list(bars))
        write(0, in_one_list([[(F, 1, 4)]])).append(99)
        write(0, in_one_list([[(F, 1, 4)], [(F, 1, 10)]]))
        write(7, in_one_list([[(F, 0, 4)]]))
        self.assertEqual(write(0, in_one_list(bars)), fresh)
        self.assertEqual(fresh, [2, 5, F, 4, 0, 0, 0, 5, G, 4, 0, 0, 0])


if __name__ == "__main__":
    unittest.main()
