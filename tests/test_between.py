import unittest

from by_the_words import NO_LETTERS, NO_OCTAVES, NO_RAISINGS
from spellednotes.notes import between

C4 = (0, 0, 4)


class BetweenTest(unittest.TestCase):
    def check(self, first, second, *expected):
        with self.subTest(first=first, second=second):
            self.assertEqual(between(*first, *second), [0, 5, *expected])

    def test_up(self):
        self.check(C4, (2, 0, 4), 2, 4, 1, 3, 1)
        self.check(C4, (2, -1, 4), 2, 3, 1, 3, -1)
        self.check(C4, (4, 0, 4), 4, 7, 1, 5, 0)
        self.check((6, 0, 4), (0, 0, 5), 1, 1, 1, 2, -1)
        self.check((3, 0, 4), (6, 0, 4), 3, 6, 1, 4, 2)
        self.check((6, 0, 4), (3, 0, 5), 4, 6, 1, 5, -2)

    def test_down(self):
        self.check((2, 0, 4), C4, -2, -4, -1, 3, 1)
        self.check((2, -1, 4), C4, -2, -3, -1, 3, -1)
        self.check((4, 0, 4), C4, -4, -7, -1, 5, 0)
        self.check((0, 0, 5), (6, 0, 4), -1, -1, -1, 2, -1)
        self.check((6, 0, 4), (3, 0, 4), -3, -6, -1, 4, 2)
        self.check((3, 0, 5), (6, 0, 4), -4, -6, -1, 5, -2)

    def test_same_note(self):
        self.check(C4, C4, 0, 0, 1, 1, 0)
        self.check((6, -3, -1), (6, -3, -1), 0, 0, 1, 1, 0)
        self.check((3, 3, 9), (3, 3, 9), 0, 0, 1, 1, 0)

    def test_same_step_higher_goes_up(self):
        self.check(C4, (0, 1, 4), 0, 1, 1, 1, 2)
        self.check((5, -3, 2), (5, 3, 2), 0, 6, 1, 1, 7)

    def test_same_step_lower_goes_down(self):
        self.check(C4, (0, -1, 4), 0, -1, -1, 1, 2)
        self.check((0, 1, 4), C4, 0, -1, -1, 1, 2)
        self.check((5, 3, 2), (5, -3, 2), 0, -6, -1, 1, 7)

    def test_steps_say_the_direction_where_sounds_say_otherwise(self):
        self.check((0, 1, 4), (1, -1, 4), 1, 0, 1, 2, -2)
        self.check((0, 1, 4), (1, -2, 4), 1, -1, 1, 2, -3)
        self.check(C4, (6, 1, 3), -1, 0, -1, 2, -2)
        self.check(C4, (6, 2, 3), -1, 1, -1, 2, -3)

    def test_usual_of_each_number_from_c(self):
        halves = (0, 2, 4, 5, 7, 9, 11)
        kinds = (0, 1, 1, 0, 0, 1, 1)
        for letter in range(7):
            self.check(C4, (letter, 0, 4), letter, halves[letter], 1, letter + 1, kinds[letter])

    def test_kinds_of_the_perfect(self):
        for raised, kind in ((-3, -4), (-2, -3), (-1, -2), (0, 0), (1, 2), (2, 3), (3, 4)):
            self.check(C4, (3, raised, 4), 3, 5 + raised, 1, 4, kind)
            self.check(C4, (4, raised, 4), 4, 7 + raised, 1, 5, kind)
            self.check(C4, (0, raised, 5), 7, 12 + raised, 1, 8, kind)
            self.check((3, raised, 4), C4, -3, -5 - raised, -1, 4, kind)

    def test_kinds_of_the_others(self):
        for raised, kind in ((-3, -3), (-2, -2), (-1, -1), (0, 1), (1, 2), (2, 3), (3, 4)):
            self.check(C4, (1, raised, 4), 1, 2 + raised, 1, 2, kind)
            self.check(C4, (2, raised, 4), 2, 4 + raised, 1, 3, kind)
            self.check(C4, (5, raised, 4), 5, 9 + raised, 1, 6, kind)
            self.check(C4, (6, raised, 4), 6, 11 + raised, 1, 7, kind)
            self.check((2, raised, 4), C4, -2, -4 - raised, -1, 3, kind)

    def test_kinds_as_far_as_they_go(self):
        self.check((0, 3, 4), (4, -3, 4), 4, 1, 1, 5, -7)
        self.check((0, -3, 4), (4, 3, 4), 4, 13, 1, 5, 7)
        self.check((0, 3, 4), (2, -3, 4), 2, -2, 1, 3, -6)
        self.check((0, -3, 4), (2, 3, 4), 2, 10, 1, 3, 7)

    def test_more_than_seven_steps(self):
        self.check(C4, (0, 0, 5), 7, 12, 1, 8, 0)
        self.check(C4, (1, -1, 5), 8, 13, 1, 9, -1)
        self.check(C4, (2, 0, 5), 9, 16, 1, 10, 1)
        self.check(C4, (4, 0, 6), 18, 31, 1, 19, 0)
        self.check((2, 0, 5), C4, -9, -16, -1, 10, 1)
        self.check((3, 1, 5), (0, 0, 3), -17, -30, -1, 18, 2)

    def test_farthest_notes(self):
        self.check((0, -3, -1), (6, 3, 9), 76, 137, 1, 77, 7)
        self.check((6, 3, 9), (0, -3, -1), -76, -137, -1, 77, 7)
        self.check((0, 3, -1), (6, -3, 9), 76, 125, 1, 77, -6)

    def test_refused_alone(self):
        for place, outside in enumerate((NO_LETTERS, NO_RAISINGS, NO_OCTAVES) * 2):
            for number in outside:
                notes = [3, 0, 4, 4, 0, 5]
                notes[place] = number
                with self.subTest(notes=notes):
                    self.assertEqual(between(*notes), [-1])

    def test_refused_if_both_are_wrong(self):
        self.assertEqual(between(7, 0, 4, 7, 0, 4), [-1])
        self.assertEqual(between(-1, 4, 10, 7, -4, -2), [-1])

    def test_nothing_is_kept(self):
        first = between(0, 0, 4, 2, 0, 4)
        first.append(99)
        between(-1, 0, 0, 0, 0, 0)
        self.assertEqual(between(0, 0, 4, 2, 0, 4), [0, 5, 2, 4, 1, 3, 1])


if __name__ == "__main__":
    unittest.main()
