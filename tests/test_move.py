import unittest

from by_the_words import NO_HALVES, NO_LETTERS, NO_OCTAVES, NO_RAISINGS, NO_STEPS, every_note, step_and_sound
from spellednotes.notes import between, move

C4 = (0, 0, 4)


class MoveTest(unittest.TestCase):
    def check(self, note, interval, expected):
        with self.subTest(note=note, interval=interval):
            self.assertEqual(move(*note, *interval), [0, 3, *expected])

    def check_no_note(self, note, interval):
        with self.subTest(note=note, interval=interval):
            self.assertEqual(move(*note, *interval), [-6])

    def check_refused(self, note, interval):
        with self.subTest(note=note, interval=interval):
            self.assertEqual(move(*note, *interval), [-1])

    def test_within_the_octave(self):
        self.check(C4, (2, 4), (2, 0, 4))
        self.check(C4, (2, 3), (2, -1, 4))
        self.check((2, 0, 4), (2, 4), (4, 1, 4))
        self.check((5, 1, 4), (-3, -5), (2, 1, 4))

    def test_no_interval_moves_nothing(self):
        self.check(C4, (0, 0), C4)
        self.check((6, 3, 9), (0, 0), (6, 3, 9))
        self.check((0, -3, -1), (0, 0), (0, -3, -1))

    def test_steps_tell_spellings_apart(self):
        self.check(C4, (0, 1), (0, 1, 4))
        self.check(C4, (1, 1), (1, -1, 4))
        self.check(C4, (-1, 1), (6, 2, 3))

    def test_over_the_octaves_end(self):
        self.check((6, 0, 4), (1, 1), (0, 0, 5))
        self.check((5, 0, 4), (2, 3), (0, 0, 5))
        self.check(C4, (-1, -1), (6, 0, 3))
        self.check((3, 0, 4), (-4, -7), (6, -1, 3))
        self.check(C4, (16, 28), (2, 0, 6))
        self.check(C4, (-16, -28), (5, -1, 1))

    def test_over_octave_zeros_beginning(self):
        self.check((0, 0, 0), (-1, -1), (6, 0, -1))
        self.check((6, 0, -1), (1, 1), (0, 0, 0))
        self.check((2, 0, 0), (-6, -10), (3, 1, -1))

    def test_how_far_what_comes_is_raised(self):
        self.check(C4, (0, 3), (0, 3, 4))
        self.check_no_note(C4, (0, 4))
        self.check(C4, (0, -3), (0, -3, 4))
        self.check_no_note(C4, (0, -4))
        self.check((0, 2, 4), (1, 3), (1, 3, 4))
        self.check_no_note((0, 2, 4), (1, 4))
        self.check((6, -2, 3), (1, 0), (0, -3, 4))
        self.check_no_note((6, -2, 3), (1, -1))

    def test_octaves_of_what_comes(self):
        self.check((0, 0, 0), (-7, -12), (0, 0, -1))
        self.check((1, 0, -1), (-1, -2), (0, 0, -1))
        self.check_no_note((0, 0, -1), (-1, -1))
        self.check_no_note((6, 0, -1), (-7, -12))
        self.check((6, 0, 8), (7, 12), (6, 0, 9))
        self.check((5, 0, 9), (1, 2), (6, 0, 9))
        self.check_no_note((6, 0, 9), (1, 1))
        self.check_no_note((0, 0, 9), (7, 12))

    def test_through_all_octaves(self):
        self.check((0, -3, -1), (76, 137), (6, 3, 9))
        self.check((6, 3, 9), (-76, -137), (0, -3, -1))
        self.check_no_note((0, -3, -1), (77, 132))
        self.check_no_note((6, 3, 9), (-77, -132))

    def test_ends_of_intervals(self):
        for steps, halves in ((100, 171), (-100, -171), (0, 200), (0, -200), (100, 200), (-100, -200)):
            self.check_no_note(C4, (steps, halves))
        for steps, halves in ((101, 171), (-101, -171), (0, 201), (0, -201), (101, 201), (-101, -201)):
            self.check_refused(C4, (steps, halves))
        self.check_refused(C4, (101, 200))
        self.check_refused(C4, (100, 201))

    def test_refused_alone(self):
        outside_of = (NO_LETTERS, NO_RAISINGS, NO_OCTAVES, NO_STEPS, NO_HALVES)
        for place, outside in enumerate(outside_of):
            for number in outside:
                numbers = [3, 0, 4, 1, 2]
                numbers[place] = number
                self.check_refused(numbers[:3], numbers[3:])

    def test_refused_even_if_a_note_would_come(self):
        self.check_refused((7, 0, 4), (-1, -1))
        self.check_refused((-1, 0, 4), (1, 1))
        self.check_refused((0, 4, 4), (0, -4))
        self.check_refused((0, -4, 4), (0, 4))
        self.check_refused((0, 0, 10), (-7, -12))
        self.check_refused((0, 0, -2), (7, 12))

    def test_refused_even_if_no_note_would_come(self):
        self.check_refused((0, 4, 4), (0, 1))
        self.check_refused((0, 0, 10), (100, 200))
        self.check_refused((7, 0, 4), (101, 201))

    def test_each_interval_gives_the_note_of_that_step_and_sound(self):
        spelled = {step_and_sound(note): note for note in every_note()}
        for note in ((0, 0, 4), (6, 3, 9), (0, -3, -1), (3, 1, 0), (4, -2, 8)):
            step, sound = step_and_sound(note)
            for steps in range(-100, 101):
                for halves in range(-200, 201):
                    found = spelled.get((step + steps, sound + halves))
                    expected = [-6] if found is None else [0, 3, *found]
                    if move(*note, steps, halves) != expected:
                        self.fail(f"{note} moved by {steps}, {halves} is not {expected}")

    def test_moved_by_what_is_between_and_back(self):
        notes = every_note()
        for first in notes:
            for second in notes:
                steps, halves = between(*first, *second)[2:4]
                if move(*first, steps, halves) != [0, 3, *second]:
                    self.fail(f"{first} moved by {steps}, {halves} is not {second}")
                if move(*second, -steps, -halves) != [0, 3, *first]:
                    self.fail(f"{second} moved back by {steps}, {halves} is not {first}")

    def test_nothing_is_kept(self):
        first = move(0, 0, 4, 2, 4)
        first.append(99)
        move(0, 0, 4, 0, 4)
        self.assertEqual(move(0, 0, 4, 2, 4), [0, 3, 2, 0, 4])


if __name__ == "__main__":
    unittest.main()
