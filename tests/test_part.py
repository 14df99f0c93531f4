import unittest

from by_the_words import A, B, C, D, E, F, G, HIGHEST_NUMBER, LOWEST_NUMBER, NATURAL_SOUNDS
from by_the_words import NO_HALVES, NO_KEYS, NO_LETTERS, NO_OCTAVES, NO_RAISINGS, NO_STEPS
from by_the_words import Unchangeable, drawn_from, every_note, folded, step_and_sound
from spellednotes.notes import move, part

WIDE = (LOWEST_NUMBER, HIGHEST_NUMBER)
SECOND_UP = (1, 2)
SIXTH_UP = (5, 9)
OCTAVE_UP = (7, 12)
OCTAVE_DOWN = (-7, -12)
NOTHING = (0, 0)


def flat(notes):
    return [number for note in notes for number in note]


def spelled_on(step, sound):
    octave, letter = divmod(step, 7)
    return (letter, sound - 12 * (octave + 1) - NATURAL_SOUNDS[letter], octave)


def written_by_the_words(interval, note):
    step, sound = step_and_sound(note)
    step += interval[0]
    sound += interval[1]
    written = spelled_on(step, sound)
    if -3 <= written[1] <= 3 and -1 <= written[2] <= 9:
        return written
    # Python's min takes the first of those that are raised equally, and that's the one below.
    return min(spelled_on(step - 1, sound), spelled_on(step + 1, sound), key=lambda other: abs(other[1]))


def part_by_the_words(interval, bounds, in_key, notes):
    fitting = [bounds[0] <= step_and_sound(note)[1] <= bounds[1] for note in notes]
    answer = [fitting.count(False), 1, folded(in_key + 7 * interval[1] - 12 * interval[0])]
    for note, fits in zip(notes, fitting, strict=True):
        answer.extend([4, *written_by_the_words(interval, note), 1 if fits else 0])
    return answer


class PartCase(unittest.TestCase):
    def check(self, interval, bounds, in_key, notes, expected):
        """What's expected is the whole answer, number by number."""
        with self.subTest(interval=interval, bounds=bounds, in_key=in_key, notes=notes):
            self.assertEqual(part(*interval, *bounds, in_key, flat(notes)), expected)

    def check_written(self, interval, note, written):
        in_key = folded(7 * interval[1] - 12 * interval[0])
        self.check(interval, WIDE, 0, [note], [0, 1, in_key, 4, *written, 1])

    def check_fits(self, interval, bounds, notes, fits):
        answer = part(*interval, *bounds, 0, flat(notes))
        with self.subTest(interval=interval, bounds=bounds, notes=notes):
            self.assertEqual(answer[0], fits.count(0))
            self.assertEqual(answer[7::5], fits)

    def check_by_the_words(self, interval, bounds, in_key, notes):
        if part(*interval, *bounds, in_key, flat(notes)) != part_by_the_words(interval, bounds, in_key, notes):
            self.fail(f"{notes} in {in_key} for {interval}, {bounds} not by the words")


class FormTest(PartCase):
    def test_number_by_number(self):
        # A clarinet in b flat, from d of octave 3 to b flat of octave 6.
        notes = [C, 0, 4, B, -1, 3, C, 0, 3]
        self.assertEqual(part(1, 2, 50, 94, -1, notes), [1, 1, 1, 4, D, 0, 4, 1, 4, C, 0, 4, 1, 4, D, 0, 3, 0])

    def test_no_note(self):
        for in_key in range(-7, 8):
            self.check(NOTHING, (0, 127), in_key, [], [0, 1, in_key])
        self.check(SECOND_UP, (0, 127), 0, [], [0, 1, 2])
        self.check(SECOND_UP, (127, 0), 0, [], [0, 1, 2])

    def test_nothing_moved(self):
        for in_key in range(-7, 8):
            self.check(NOTHING, (0, 127), in_key, [(C, 0, 4)], [0, 1, in_key, 4, C, 0, 4, 1])
        for note in every_note():
            self.check_written(NOTHING, note, note)

    def test_order_of_the_notes_stays(self):
        self.check(NOTHING, (60, 127), 0, [(G, 0, 4), (C, 1, 3), (A, -1, 4), (G, 0, 4)],
                   [1, 1, 0, 4, G, 0, 4, 1, 4, C, 1, 3, 0, 4, A, -1, 4, 1, 4, G, 0, 4, 1])


class WrittenTest(PartCase):
    def test_second_up(self):
        self.check_written(SECOND_UP, (C, 0, 4), (D, 0, 4))
        self.check_written(SECOND_UP, (E, 0, 4), (F, 1, 4))
        self.check_written(SECOND_UP, (B, -1, 3), (C, 0, 4))
        self.check_written(SECOND_UP, (B, 0, 3), (C, 1, 4))
        self.check_written(SECOND_UP, (B, 2, 3), (C, 3, 4))

    def test_sixth_up(self):
        self.check_written(SIXTH_UP, (C, 0, 4), (A, 0, 4))
        self.check_written(SIXTH_UP, (E, -1, 4), (C, 0, 5))
        self.check_written(SIXTH_UP, (F, 1, 4), (D, 1, 5))

    def test_octaves(self):
        self.check_written(OCTAVE_DOWN, (C, 0, 4), (C, 0, 3))
        self.check_written(OCTAVE_DOWN, (B, -3, 0), (B, -3, -1))
        self.check_written(OCTAVE_UP, (C, 3, 4), (C, 3, 5))

    def test_raised_too_far(self):
        self.check_written(SECOND_UP, (E, 2, 4), (F, 3, 4))
        self.check_written(SECOND_UP, (E, 3, 4), (G, 2, 4))
        self.check_written(SECOND_UP, (B, 3, 4), (D, 2, 5))
        self.check_written((0, 1), (C, 3, 4), (D, 2, 4))
        self.check_written((0, 1), (E, 3, 4), (F, 3, 4))
        self.check_written((0, 1), (B, 3, 4), (C, 3, 5))

    def test_lowered_too_far(self):
        self.check_written((1, 1), (D, -3, 4), (D, -2, 4))
        self.check_written((1, 1), (C, -2, 4), (D, -3, 4))
        self.check_written((1, 1), (C, -3, 4), (C, -2, 4))
        self.check_written((0, -1), (C, -3, 4), (B, -3, 3))
        self.check_written((0, -1), (D, -3, 4), (C, -2, 4))
        self.check_written((-1, -2), (F, -3, 4), (D, -2, 4))

    def test_told_on_the_next_step_even_if_raised_too_far_there(self):
        self.check_written((0, 6), (C, 0, 4), (D, 4, 4))
        self.check_written((0, -6), (C, 0, 4), (B, -5, 3))
        self.check_written((0, 200), (C, 0, 4), (D, 198, 4))
        self.check_written((0, -200), (C, 0, 4), (B, -199, 3))
        self.check_written((100, 0), (C, 0, 4), (D, -170, 18))

    def test_above_the_highest_octave(self):
        # c of octave 10 is told as b sharp of octave 9, which is a note.
        self.check_written(OCTAVE_UP, (C, 0, 9), (B, 1, 9))
        self.check_written((1, 1), (B, 0, 9), (B, 1, 9))
        # c sharp there is told as d flat, though b raised by 2 would be a note.
        self.check_written(SECOND_UP, (B, 0, 9), (D, -1, 10))
        self.check_written(OCTAVE_UP, (E, 0, 9), (F, -1, 10))
        self.check_written(OCTAVE_UP, (F, 0, 9), (E, 1, 10))
        self.check_written(OCTAVE_UP, (B, 0, 9), (C, -1, 11))

    def test_below_the_lowest_octave(self):
        # b of octave -2 is told as c flat of octave -1, which is a note.
        self.check_written(OCTAVE_DOWN, (B, 0, -1), (C, -1, -1))
        self.check_written((-1, -1), (C, 0, -1), (C, -1, -1))
        # b flat there is told as a sharp, though c lowered by 2 would be a note.
        self.check_written((-1, -2), (C, 0, -1), (A, 1, -2))
        self.check_written(OCTAVE_DOWN, (E, 0, -1), (F, -1, -2))
        self.check_written(OCTAVE_DOWN, (C, 0, -1), (B, 1, -3))

    def test_below_where_both_are_raised_equally(self):
        self.check_written(OCTAVE_UP, (D, 0, 9), (C, 2, 10))
        self.check_written(OCTAVE_UP, (G, 0, 9), (F, 2, 10))
        self.check_written(OCTAVE_UP, (A, 0, 9), (G, 2, 10))
        self.check_written(OCTAVE_DOWN, (D, 0, -1), (C, 2, -2))
        self.check_written(OCTAVE_DOWN, (G, 0, -1), (F, 2, -2))
        self.check_written((14, 24), (D, 0, 9), (C, 2, 11))

    def test_raised_less_either_way(self):
        self.check_written(OCTAVE_UP, (D, 1, 9), (E, -1, 10))
        self.check_written(OCTAVE_UP, (D, -1, 9), (C, 1, 10))
        self.check_written(OCTAVE_DOWN, (D, 1, -1), (E, -1, -2))
        self.check_written(OCTAVE_DOWN, (D, -1, -1), (C, 1, -2))

    def test_as_move_tells_it_where_it_tells_a_note(self):
        for note in ((C, 0, 4), (B, 3, 9), (C, -3, -1), (F, 1, 0)):
            for steps in range(-100, 101):
                for halves in range(-200, 201, 7):
                    told = move(*note, steps, halves)
                    if told != [-6] and part(steps, halves, *WIDE, 0, list(note))[3:7] != [4, *told[2:]]:
                        self.fail(f"{note} moved by {steps}, {halves} is not told like {told}")


class FitsTest(PartCase):
    def test_lowest_and_highest(self):
        notes = [(B, 0, 3), (C, 0, 4), (C, 1, 4), (G, 0, 4), (A, -1, 4), (A, 0, 4)]
        self.check_fits(NOTHING, (60, 68), notes, [0, 1, 1, 1, 1, 0])
        self.check_fits(NOTHING, (59, 69), notes, [1, 1, 1, 1, 1, 1])
        self.check_fits(NOTHING, (61, 67), notes, [0, 0, 1, 1, 0, 0])
        self.check_fits(NOTHING, (60, 60), notes, [0, 1, 0, 0, 0, 0])

    def test_by_the_sound_not_by_the_step(self):
        notes = [(B, 1, 3), (C, 0, 4), (D, -2, 4), (C, -1, 4), (B, 0, 3), (A, 3, 3)]
        self.check_fits(NOTHING, (60, 60), notes, [1, 1, 1, 0, 0, 1])

    def test_lowest_above_the_highest(self):
        notes = [(B, 0, 3), (C, 0, 4), (C, 1, 4)]
        self.check_fits(NOTHING, (61, 60), notes, [0, 0, 0])
        self.check_fits(NOTHING, (61, 59), notes, [0, 0, 0])
        self.check_fits(NOTHING, (HIGHEST_NUMBER, LOWEST_NUMBER), notes, [0, 0, 0])

    def test_farthest_bounds(self):
        notes = [(C, -3, -1), (C, 0, 4), (B, 3, 9)]
        self.check_fits(NOTHING, (LOWEST_NUMBER, HIGHEST_NUMBER), notes, [1, 1, 1])
        self.check_fits(NOTHING, (LOWEST_NUMBER, LOWEST_NUMBER), notes, [0, 0, 0])
        self.check_fits(NOTHING, (HIGHEST_NUMBER, HIGHEST_NUMBER), notes, [0, 0, 0])
        self.check_fits(NOTHING, (LOWEST_NUMBER, 60), notes, [1, 1, 0])
        self.check_fits(NOTHING, (60, HIGHEST_NUMBER), notes, [0, 1, 1])

    def test_sounds_below_0_and_above_127(self):
        notes = [(C, -3, -1), (C, -2, -1), (B, 2, 9), (B, 3, 9)]
        self.check_fits(NOTHING, (-3, 134), notes, [1, 1, 1, 1])
        self.check_fits(NOTHING, (-2, 133), notes, [0, 1, 1, 0])
        self.check_fits(NOTHING, (0, 127), notes, [0, 0, 0, 0])

    def test_by_what_sounds_not_by_what_is_written(self):
        notes = [(C, 0, 4), (C, 0, 5)]
        self.check_fits(OCTAVE_UP, (60, 60), notes, [1, 0])
        self.check_fits(OCTAVE_UP, (72, 72), notes, [0, 1])
        self.check_fits(OCTAVE_DOWN, (60, 60), notes, [1, 0])
        self.check_fits(OCTAVE_DOWN, (48, 48), notes, [0, 0])
        self.check_fits((0, 200), (60, 72), notes, [1, 1])

    def test_first_answered_is_how_many_do_not_fit(self):
        for count in range(8):
            notes = [(C, 0, 3)] * count + [(C, 0, 4)] * (7 - count)
            self.assertEqual(part(0, 0, 60, 72, 0, flat(notes))[0], count)


class KeyTest(PartCase):
    def check_key(self, interval, in_key, expected):
        self.check(interval, WIDE, in_key, [], [0, 1, expected])
        self.check(interval, WIDE, in_key, [(C, 0, 4)],
                   [0, 1, expected, 4, *written_by_the_words(interval, (C, 0, 4)), 1])

    def test_moved(self):
        self.check_key(SECOND_UP, 0, 2)
        self.check_key(SECOND_UP, -3, -1)
        self.check_key(SIXTH_UP, -1, 2)
        self.check_key(OCTAVE_DOWN, 5, 5)

    def test_beyond_seven(self):
        self.check_key(SECOND_UP, 5, 7)
        self.check_key(SECOND_UP, 6, -4)
        self.check_key(SECOND_UP, 7, -3)
        self.check_key(SIXTH_UP, 7, -2)
        self.check_key((0, 200), 0, -4)

    def test_below_minus_seven(self):
        self.check_key((-1, -2), -5, -7)
        self.check_key((-1, -2), -6, 4)
        self.check_key((-1, -2), -7, 3)
        self.check_key((1, 1), -7, 0)
        self.check_key((0, -200), 0, 4)


class RefusedTest(PartCase):
    notes = ((C, 0, 4), (F, 3, 9), (G, 0, 4), (B, -3, -1), (A, 1, 5))

    def check_refused(self, interval, in_key, notes):
        with self.subTest(interval=interval, in_key=in_key, notes=notes):
            self.assertEqual(part(*interval, *WIDE, in_key, flat(notes)), [-1])

    def test_the_notes_are_else_taken(self):
        self.check_by_the_words(SECOND_UP, WIDE, 0, self.notes)

    def test_wrong_note_in_each_place(self):
        for place in range(len(self.notes)):
            for member, outside in enumerate((NO_LETTERS, NO_RAISINGS, NO_OCTAVES)):
                for wrong in outside:
                    notes = [list(note) for note in self.notes]
                    notes[place][member] = wrong
                    self.check_refused(SECOND_UP, 0, notes)
                    self.check_refused(NOTHING, 0, [notes[place]])

    def test_wrong_note_even_if_what_is_written_would_be_one(self):
        self.check_refused(OCTAVE_DOWN, 0, [(C, 0, 10)])
        self.check_refused(OCTAVE_UP, 0, [(C, 0, -2)])
        self.check_refused((0, -1), 0, [(C, 4, 4)])

    def test_wrong_note_that_does_not_fit(self):
        self.assertEqual(part(0, 0, 1, 0, 0, [C, 0, 4, 7, 0, 4]), [-1])

    def test_wrong_last_of_sixty(self):
        self.check_refused(SECOND_UP, 0, [(C, 0, 4)] * 59 + [(C, 0, 10)])

    def test_wrong_key(self):
        for in_key in NO_KEYS:
            self.check_refused(SECOND_UP, in_key, self.notes)
            self.check_refused(NOTHING, in_key, [])
        self.check_refused((-1, -2), 8, self.notes)

    def test_wrong_interval(self):
        for steps in NO_STEPS:
            self.check_refused((steps, 0), 0, self.notes)
            self.check_refused((steps, 0), 0, [])
        for halves in NO_HALVES:
            self.check_refused((0, halves), 0, self.notes)
            self.check_refused((0, halves), 0, [])

    def test_several_wrong(self):
        self.check_refused((101, 201), 8, [(7, 4, 10)])

    def test_ends_are_taken(self):
        for in_key in (-7, 7):
            for steps in (-100, 100):
                for halves in (-200, 200):
                    self.check_by_the_words((steps, halves), (0, 127), in_key, self.notes)


class WholeTest(PartCase):
    def test_every_note_by_the_words(self):
        notes = every_note()
        for steps in range(-15, 16):
            halves = 12 * (steps // 7) + NATURAL_SOUNDS[steps % 7]
            for more in (-5, -2, -1, 0, 1, 4):
                for start in range(0, len(notes), 60):
                    self.check_by_the_words((steps, halves + more), (40, 80), steps % 15 - 7, notes[start:start + 60])

    def test_each_interval_by_the_words(self):
        notes = [(C, 0, 4), (B, 3, 9), (C, -3, -1)]
        for steps in range(-100, 101):
            for halves in range(-200, 201, 3):
                self.check_by_the_words((steps, halves), (0, 127), (steps + halves) % 15 - 7, notes)

    def test_drawn_by_the_words(self):
        drawn = drawn_from(6)
        notes = every_note()
        for times in range(300):
            interval = (drawn(range(-100, 101)), drawn(range(-200, 201)))
            bounds = (drawn(range(-10, 140)), drawn(range(-10, 140)))
            some = [drawn(notes) for place in range(drawn(range(12)))]
            self.check_by_the_words(interval, bounds, drawn(range(-7, 8)), some)

    def test_sixty_notes(self):
        notes = [(place % 7, place % 5 - 2, place % 11 - 1) for place in range(60)]
        self.assertEqual(len(flat(notes)), 180)
        self.assertEqual(len(part(1, 2, 40, 80, 0, flat(notes))), 3 + 60 * 5)
        self.check_by_the_words(SECOND_UP, (40, 80), 0, notes)

    def test_what_is_handed_in_stays(self):
        notes = [C, 0, 4, B, 3, 9]
        answer = part(1, 2, 0, 127, 0, notes)
        self.assertEqual(notes, [C, 0, 4, B, 3, 9])
        answer.append(99)
        answer[3:] = [99]
        self.assertEqual(notes, [C, 0, 4, B, 3, 9])

    def test_what_is_handed_in_is_not_changed_for_a_while(self):
        notes = [(C, 0, 4), (B, 3, 9)]
        answer = part(1, 2, 0, 127, 0, Unchangeable(flat(notes)))
        self.assertEqual(answer, part_by_the_words(SECOND_UP, (0, 127), 0, notes))
        self.assertEqual(part(1, 2, 0, 127, 0, Unchangeable(flat(notes + [(C, 0, 10)]))), [-1])

    def test_nothing_is_kept(self):
        fresh = part(1, 2, 50, 94, -1, [C, 0, 4, C, 0, 3])
        part(0, 200, 0, 0, 7, [B, 3, 9]).append(99)
        part(1, 2, 50, 94, 8, [C, 0, 4])
        self.assertEqual(part(1, 2, 50, 94, -1, [C, 0, 4, C, 0, 3]), fresh)
        self.assertEqual(fresh, [1, 1, 1, 4, D, 0, 4, 1, 4, D, 0, 3, 0])


if __name__ == "__main__":
    unittest.main()
