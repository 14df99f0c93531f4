import unittest

from by_the_words import NO_HALVES, NO_KEYS, NO_STEPS, folded
from spellednotes.notes import key


class KeyTest(unittest.TestCase):
    def check(self, in_key, interval, expected):
        with self.subTest(in_key=in_key, interval=interval):
            self.assertEqual(key(in_key, *interval), [0, 1, expected])

    def check_refused(self, in_key, steps, halves):
        with self.subTest(in_key=in_key, steps=steps, halves=halves):
            self.assertEqual(key(in_key, steps, halves), [-1])

    def test_nothing_and_octaves_move_no_key(self):
        for in_key in range(-7, 8):
            for interval in ((0, 0), (7, 12), (-7, -12), (14, 24), (-14, -24), (98, 168), (-98, -168)):
                self.check(in_key, interval, in_key)

    def test_up(self):
        self.check(0, (4, 7), 1)
        self.check(-3, (4, 7), -2)
        self.check(0, (3, 5), -1)
        self.check(0, (1, 2), 2)
        self.check(0, (1, 1), -5)
        self.check(0, (2, 4), 4)
        self.check(0, (2, 3), -3)
        self.check(0, (5, 9), 3)
        self.check(0, (5, 8), -4)
        self.check(0, (6, 11), 5)
        self.check(0, (6, 10), -2)
        self.check(1, (11, 19), 2)

    def test_down(self):
        self.check(0, (-4, -7), -1)
        self.check(0, (-3, -5), 1)
        self.check(0, (-1, -2), -2)
        self.check(0, (-1, -1), 5)
        self.check(0, (-2, -3), 3)
        self.check(2, (-2, -4), -2)
        self.check(0, (-5, -9), -3)
        self.check(1, (-8, -14), -1)

    def test_same_step(self):
        self.check(0, (0, 1), 7)
        self.check(0, (0, -1), -7)
        self.check(-7, (0, 2), 7)
        self.check(7, (0, -2), -7)

    def test_spelling_of_the_interval_matters(self):
        self.check(0, (3, 6), 6)
        self.check(0, (4, 6), -6)
        self.check(0, (1, 0), 0)
        self.check(4, (1, 0), 4)
        self.check(5, (1, 0), -7)

    def test_ends_of_keys(self):
        self.check(6, (4, 7), 7)
        self.check(7, (4, 7), -4)
        self.check(7, (1, 2), -3)
        self.check(-6, (-4, -7), -7)
        self.check(-7, (-4, -7), 4)
        self.check(-7, (-1, -2), 3)
        self.check(1, (0, 1), -4)
        self.check(-1, (0, -1), 4)

    def test_no_oftener_than_it_takes(self):
        # A diminished second up has 12 fifths fewer, so each of these three has two keys that would do.
        for in_key in (5, 6, 7):
            self.check(in_key, (0, 0), in_key)
            self.check(in_key, (1, 0), in_key - 12)
            self.check(in_key, (-1, 0), in_key)
            self.check(in_key - 12, (0, 0), in_key - 12)
            self.check(in_key - 12, (1, 0), in_key - 12)
            self.check(in_key - 12, (-1, 0), in_key)
        self.check(5, (0, 2), 7)
        self.check(-5, (0, -2), -7)
        self.check(6, (0, 2), -4)
        self.check(-6, (0, -2), 4)

    def test_far_above_and_far_below(self):
        self.check(0, (100, 200), 7 * 200 - 12 * 100 - 12 * 17)
        self.check(0, (-100, -200), -(7 * 200 - 12 * 100 - 12 * 17))
        self.check(0, (-100, 200), 7 * 200 + 12 * 100 - 12 * 217)
        self.check(0, (100, -200), -(7 * 200 + 12 * 100 - 12 * 217))
        for steps in (-100, 0, 100):
            for halves in (-200, 0, 200):
                for in_key in range(-7, 8):
                    self.check(in_key, (steps, halves), folded(in_key + 7 * halves - 12 * steps))

    def test_each_interval(self):
        for steps in range(-100, 101):
            for halves in range(-200, 201):
                in_key = (steps + 3 * halves) % 15 - 7
                expected = [0, 1, folded(in_key + 7 * halves - 12 * steps)]
                if key(in_key, steps, halves) != expected:
                    self.fail(f"{in_key} moved by {steps}, {halves} is not {expected}")

    def test_each_key_by_each_interval_near(self):
        for in_key in range(-7, 8):
            for steps in range(-15, 16):
                for halves in range(-26, 27):
                    expected = [0, 1, folded(in_key + 7 * halves - 12 * steps)]
                    if key(in_key, steps, halves) != expected:
                        self.fail(f"{in_key} moved by {steps}, {halves} is not {expected}")

    def test_refused_alone(self):
        for place, outside in enumerate((NO_KEYS, NO_STEPS, NO_HALVES)):
            for number in outside:
                numbers = [1, 4, 7]
                numbers[place] = number
                self.check_refused(*numbers)

    def test_refused_even_if_a_key_would_come(self):
        self.check_refused(8, -4, -7)
        self.check_refused(-8, 4, 7)
        self.check_refused(8, 0, 0)
        self.check_refused(-8, 0, 0)
        self.check_refused(0, 101, 173)
        self.check_refused(0, -101, -173)
        self.check_refused(8, 101, 201)

    def test_ends_are_taken(self):
        for in_key in (-7, 7):
            for steps in (-100, 100):
                for halves in (-200, 200):
                    self.assertEqual(key(in_key, steps, halves)[:2], [0, 1])

    def test_nothing_is_kept(self):
        first = key(0, 4, 7)
        first.append(99)
        key(8, 4, 7)
        self.assertEqual(key(0, 4, 7), [0, 1, 1])


if __name__ == "__main__":
    unittest.main()
