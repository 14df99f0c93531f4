import itertools
import unittest

from by_the_words import A, B, C, D, E, F, G, HIGHEST_NUMBER, LOWEST_NUMBER, NATURAL_SOUNDS, NO_KEYS
from by_the_words import Unchangeable, by_key, drawn_from
from spellednotes.notes import spell

FIFTHS = (0, 2, 4, -1, 1, 3, 5)
NO_NUMBERS = (LOWEST_NUMBER, -1, 128, HIGHEST_NUMBER)
COSTS = (
    (0, 0, 0, 0),
    (1, 0, 0, 0),
    (0, 1, 0, 0),
    (0, 0, 1, 0),
    (0, 0, 0, 1),
    (1, 1, 1, 1),
    (2147483647, 2147483647, 2147483647, 2147483647),
    (2147483647, 1, 0, 1),
    (0, 2147483647, 1, 2147483647),
    (1, 2, 3, 4),
    (4, 3, 2, 1),
    (3, 1, 2, 40),
    (1, 7, 0, 2),
)


def sounding(number):
    """All notes that sound so, by their steps."""
    return [
        (letter, number - 12 * (octave + 1) - NATURAL_SOUNDS[letter], octave)
        for octave in range(-1, 10)
        for letter in range(7)
        if -3 <= number - 12 * (octave + 1) - NATURAL_SOUNDS[letter] <= 3
    ]


def fifths(note):
    return FIFTHS[note[0]] + 7 * note[1]


def beyond(number):
    if number > 5:
        return number - 5
    if number < -5:
        return -5 - number
    return 0


def cost_of(costs, in_key, row):
    sign, apart, far, same = costs
    cost = 0
    for note in row:
        cost += sign * abs(note[1] - by_key(in_key, note[0]))
        cost += far * beyond(fifths(note) - (in_key + 2))
    for first, second in itertools.pairwise(row):
        cost += apart * beyond(fifths(second) - fifths(first))
        if first[0] == second[0] and first[1] != second[1]:
            cost += same
    return cost


def spelled_by_the_words(costs, in_key, numbers):
    """Tries every row, in the order in which the first of several is the one to be told."""
    best = None
    for row in itertools.product(*[sounding(number) for number in numbers]):
        cost = cost_of(costs, in_key, row)
        if best is None or cost < best[0]:
            best = (cost, row)
    return answer_of(*best)


def answer_of(cost, row):
    answer = [cost]
    for note in row:
        answer.extend([3, *note])
    return answer


def row_in(answer):
    return [tuple(answer[start + 1:start + 4]) for start in range(1, len(answer), 4)]


def least_cost(costs, in_key, numbers):
    """The least that a row costs, note by note from the first on."""
    least = {}
    for place, number in enumerate(numbers):
        longer = {}
        for note in sounding(number):
            ways = [cost + cost_of(costs, in_key, (before, note)) - cost_of(costs, in_key, (before,))
                    for before, cost in least.items()]
            longer[note] = min(ways) if place else cost_of(costs, in_key, (note,))
        least = longer
    return min(least.values())


class SpellCase(unittest.TestCase):
    def check(self, costs, in_key, numbers, cost, row):
        with self.subTest(costs=costs, in_key=in_key, numbers=numbers):
            self.assertEqual(spell(*costs, in_key, numbers), answer_of(cost, row))

    def check_by_the_words(self, costs, in_key, numbers):
        expected = spelled_by_the_words(costs, in_key, numbers)
        if spell(*costs, in_key, numbers) != expected:
            self.fail(f"{numbers} at {costs} in {in_key} is not {expected}")

    def check_refused(self, costs, in_key, numbers):
        with self.subTest(costs=costs, in_key=in_key, numbers=numbers):
            self.assertEqual(spell(*costs, in_key, numbers), [-1])


class OneNumberTest(SpellCase):
    def test_no_number(self):
        for in_key in range(-7, 8):
            for costs in COSTS:
                self.assertEqual(spell(*costs, in_key, []), [0])

    def test_number_by_number(self):
        self.assertEqual(spell(1, 1, 1, 1, 0, [60]), [0, 3, C, 0, 4])
        self.assertEqual(spell(1, 1, 1, 1, 0, [60, 61]), [3, 3, C, 0, 4, 3, D, -1, 4])

    def test_each_number(self):
        for number in range(128):
            for in_key in range(-7, 8):
                for costs in COSTS:
                    self.check_by_the_words(costs, in_key, [number])

    def test_lowest_step_where_nothing_costs(self):
        for in_key in (-7, 0, 7):
            self.check((0, 0, 0, 0), in_key, [60], 0, [(A, 3, 3)])
            self.check((0, 0, 0, 0), in_key, [61], 0, [(B, 2, 3)])
            self.check((0, 0, 0, 0), in_key, [71], 0, [(A, 2, 4)])

    def test_lowest_numbers(self):
        for number, note in ((0, (C, 0, -1)), (1, (C, 1, -1)), (2, (C, 2, -1)), (3, (C, 3, -1)), (4, (D, 2, -1))):
            self.check((0, 0, 0, 0), 0, [number], 0, [note])
        # The b sharp of the octave below would cost nothing, but there is no such octave.
        self.check((0, 0, 1, 0), 7, [0], 4, [(C, 0, -1)])
        self.check((1, 0, 0, 0), 7, [0], 1, [(C, 0, -1)])
        self.check((1, 0, 0, 0), -7, [0], 1, [(C, 0, -1)])

    def test_highest_numbers(self):
        for number, note in ((127, (E, 3, 9)), (126, (E, 2, 9)), (125, (D, 3, 9)), (120, (A, 3, 8))):
            self.check((0, 0, 0, 0), 0, [number], 0, [note])
        self.check((1, 0, 0, 0), 0, [127], 0, [(G, 0, 9)])
        self.check((1, 0, 0, 0), 7, [127], 1, [(F, 2, 9)])
        self.check((1, 0, 0, 0), -7, [127], 1, [(G, 0, 9)])

    def test_over_the_octaves_end(self):
        self.check((1, 0, 0, 0), 7, [60], 0, [(B, 1, 3)])
        self.check((1, 0, 0, 0), -7, [59], 0, [(C, -1, 4)])
        self.check((1, 0, 0, 0), 7, [12], 0, [(B, 1, -1)])
        self.check((1, 0, 0, 0), -7, [11], 0, [(C, -1, 0)])


class CostsTest(SpellCase):
    def test_sign(self):
        self.check((5, 0, 0, 0), 0, [66], 5, [(F, 1, 4)])
        self.check((5, 0, 0, 0), 1, [66], 0, [(F, 1, 4)])
        self.check((5, 0, 0, 0), -5, [66], 0, [(G, -1, 4)])
        self.check((5, 0, 0, 0), 1, [65], 5, [(E, 1, 4)])
        self.check((1, 0, 0, 0), 7, [62], 1, [(C, 2, 4)])

    def test_sign_by_how_much(self):
        # The b raised by 2 is on a lower step than c sharp, and costs twice as much.
        self.check((1, 0, 0, 0), 0, [61], 1, [(C, 1, 4)])
        self.check((1, 0, 0, 0), -7, [2], 1, [(D, 0, -1)])
        self.check((3, 0, 0, 0), -6, [5], 0, [(F, 0, -1)])
        self.check((1, 0, 0, 0), -6, [60, 61], 1, [(C, 0, 4), (D, -1, 4)])

    def test_far_just_at_five_and_beyond(self):
        # In no key: from -3 to 7 fifths cost nothing. d sharp has 9, e flat -3.
        self.check((0, 0, 1, 0), 0, [63], 0, [(E, -1, 4)])
        # c sharp has 7, d flat -5.
        self.check((0, 0, 1, 0), 0, [61], 0, [(C, 1, 4)])
        # g sharp has 8, a flat -4: one beyond each way.
        self.check((0, 0, 1, 0), 0, [68], 1, [(G, 1, 4)])
        self.check((0, 0, 9, 0), 1, [68], 0, [(G, 1, 4)])
        self.check((0, 0, 9, 0), -1, [68], 0, [(A, -1, 4)])
        self.check((0, 0, 1, 0), 7, [60], 0, [(B, 1, 3)])
        self.check((0, 0, 1, 0), -7, [59], 0, [(C, -1, 4)])

    def test_apart_just_at_five_and_beyond(self):
        # sign ties the first note to c; from there b is 5 up, f sharp 6, d flat 5 down, g flat 6.
        sign = 1000
        self.check((sign, 1, 0, 0), 0, [60, 71], 0, [(C, 0, 4), (B, 0, 4)])
        self.check((sign, 1, 0, 0), 0, [60, 66], sign + 1, [(C, 0, 4), (F, 1, 4)])
        self.check((sign, 1, 0, 0), 0, [60, 61], sign, [(C, 0, 4), (D, -1, 4)])
        self.check((sign, 1, 0, 0), 0, [61, 60], sign, [(D, -1, 4), (C, 0, 4)])
        self.check((sign, 1, 0, 0), 0, [71, 60], 0, [(B, 0, 4), (C, 0, 4)])
        self.check((sign, 1, 0, 0), 0, [65, 71], 1, [(F, 0, 4), (B, 0, 4)])
        self.check((sign, 1, 0, 0), 0, [71, 65], 1, [(B, 0, 4), (F, 0, 4)])

    def test_same(self):
        sign = 1000
        self.check((sign, 0, 0, 0), 0, [60, 61], sign, [(C, 0, 4), (C, 1, 4)])
        self.check((sign, 0, 0, 1), 0, [60, 61], sign, [(C, 0, 4), (D, -1, 4)])
        self.check((sign, 0, 0, 1), 0, [61, 60], sign, [(D, -1, 4), (C, 0, 4)])
        self.check((sign, 0, 0, 1), 0, [61, 62], sign, [(C, 1, 4), (D, 0, 4)])

    def test_same_in_other_octaves(self):
        sign = 1000
        self.check((sign, 0, 0, 1), 0, [60, 85], sign, [(C, 0, 4), (D, -1, 6)])
        self.check((sign, 0, 0, 1), 0, [60, 72], 0, [(C, 0, 4), (C, 0, 5)])

    def test_same_letter_raised_alike_costs_nothing(self):
        self.check((1000, 0, 0, 1), 0, [61, 61, 73], 3000, [(C, 1, 4), (C, 1, 4), (C, 1, 5)])

    def test_same_where_nothing_avoids_it(self):
        # The one between is on the letter of one neighbour or of the other, whichever way it's spelled.
        self.check((1000, 0, 0, 1), 0, [60, 61, 62], 1001, [(C, 0, 4), (C, 1, 4), (D, 0, 4)])

    def test_same_is_for_neighbours_alone(self):
        self.check((1000, 0, 0, 1), 0, [60, 64, 61], 1000, [(C, 0, 4), (E, 0, 4), (C, 1, 4)])

    def test_apart_is_for_neighbours_alone(self):
        self.check((1000, 1, 0, 0), 0, [65, 62, 71], 0, [(F, 0, 4), (D, 0, 4), (B, 0, 4)])

    def test_greatest_costs(self):
        most = HIGHEST_NUMBER
        self.check((most, most, most, most), 0, [60, 66], 2 * most, [(C, 0, 4), (F, 1, 4)])
        self.check((most, 0, 0, 0), 0, [61] * 40, 40 * most, [(C, 1, 4)] * 40)

    def test_later_note_decides_over_earlier(self):
        # g sharp or a flat alone costs alike; the neighbour behind makes one of them cheaper.
        self.check((1, 1, 0, 0), 0, [68, 64], 1, [(G, 1, 4), (E, 0, 4)])
        self.check((1, 1, 0, 0), 0, [68, 65], 1, [(A, -1, 4), (F, 0, 4)])


class AlikeTest(SpellCase):
    def test_lower_step_of_the_first_note_that_differs(self):
        self.check((1, 0, 0, 0), 0, [61, 63], 2, [(C, 1, 4), (D, 1, 4)])
        self.check((1, 0, 0, 0), 0, [63, 61, 60], 2, [(D, 1, 4), (C, 1, 4), (C, 0, 4)])

    def test_first_note_decides_even_if_the_second_is_then_higher(self):
        # Either note could have its lowest spelling, but not both: they'd be on one letter.
        self.check((0, 0, 0, 1), 0, [60, 59], 0, [(A, 3, 3), (B, 0, 3)])
        self.check((0, 0, 0, 1), 0, [59, 60], 0, [(A, 2, 3), (B, 1, 3)])
        for numbers in ([61, 60], [61, 63], [60, 71, 60], [66, 59, 61]):
            for costs in ((0, 1, 0, 0), (0, 1, 0, 1), (0, 0, 0, 1)):
                self.check_by_the_words(costs, 0, numbers)

    def test_nothing_costs(self):
        numbers = [number % 128 for number in range(0, 40 * 37, 37)]
        self.check((0, 0, 0, 0), 3, numbers, 0, [sounding(number)[0] for number in numbers])

    def test_every_row_of_two_and_three_near_numbers(self):
        for first in range(60, 72):
            for second in range(58, 74):
                for costs in ((0, 1, 0, 0), (0, 0, 0, 1), (0, 1, 0, 1), (1, 1, 0, 0)):
                    self.check_by_the_words(costs, 0, [first, second])
                self.check_by_the_words((0, 1, 0, 1), 0, [first, second, 61])


class WholeTest(SpellCase):
    def test_rows_by_the_words(self):
        drawn = drawn_from(1)
        for in_key in range(-7, 8):
            for costs in COSTS:
                for length in (2, 3, 4):
                    self.check_by_the_words(costs, in_key, [drawn(range(55, 75)) for place in range(length)])
                self.check_by_the_words(costs, in_key, [drawn(range(128)) for place in range(3)])

    def test_drawn_costs_by_the_words(self):
        drawn = drawn_from(2)
        for times in range(150):
            costs = [drawn((0, 0, 1, 1, 2, 3, 5, 8, 2147483647)) for cost in range(4)]
            numbers = [drawn(range(58, 70)) for place in range(drawn((1, 2, 3, 4)))]
            self.check_by_the_words(costs, drawn(range(-7, 8)), numbers)

    def test_rows_at_both_ends_by_the_words(self):
        drawn = drawn_from(3)
        for times in range(60):
            costs = COSTS[times % len(COSTS)]
            self.check_by_the_words(costs, times % 15 - 7, [drawn((0, 1, 2, 3, 4)) for place in range(4)])
            self.check_by_the_words(costs, times % 15 - 7, [drawn((123, 124, 125, 126, 127)) for place in range(4)])

    def test_five_numbers_by_the_words(self):
        drawn = drawn_from(4)
        for times in range(26):
            numbers = [drawn(range(60, 73)) for place in range(5)]
            self.check_by_the_words(COSTS[times % len(COSTS)], times % 15 - 7, numbers)

    def test_scales(self):
        self.check((1, 1, 1, 1), 0, [60, 62, 64, 65, 67, 69, 71, 72], 0,
                   [(C, 0, 4), (D, 0, 4), (E, 0, 4), (F, 0, 4), (G, 0, 4), (A, 0, 4), (B, 0, 4), (C, 0, 5)])
        self.check((1, 1, 1, 1), 2, [62, 64, 66, 67, 69, 71, 73, 74], 0,
                   [(D, 0, 4), (E, 0, 4), (F, 1, 4), (G, 0, 4), (A, 0, 4), (B, 0, 4), (C, 1, 5), (D, 0, 5)])
        self.check((1, 1, 1, 1), -3, [63, 65, 67, 68, 70, 72, 74, 75], 0,
                   [(E, -1, 4), (F, 0, 4), (G, 0, 4), (A, -1, 4), (B, -1, 4), (C, 0, 5), (D, 0, 5), (E, -1, 5)])

    def test_forty_numbers(self):
        drawn = drawn_from(5)
        for in_key in range(-7, 8):
            for costs in COSTS:
                numbers = [drawn(range(128)) for place in range(40)]
                answer = spell(*costs, in_key, numbers)
                row = row_in(answer)
                self.assertEqual(answer, answer_of(cost_of(costs, in_key, row), row))
                self.assertEqual(answer[0], least_cost(costs, in_key, numbers))
                for note, number in zip(row, numbers, strict=True):
                    self.assertIn(note, sounding(number))

    def test_forty_numbers_that_cost_alike(self):
        self.check((0, 0, 0, 1), 0, [60, 66] * 20, 0, [(A, 3, 3), (E, 2, 4)] * 20)
        self.check((0, 0, 0, 1), 0, [60, 59] * 20, 0, [(A, 3, 3), (B, 0, 3)] * 20)


class RefusedTest(SpellCase):
    def test_more_than_forty(self):
        self.assertEqual(len(spell(1, 1, 1, 1, 0, [60] * 40)), 1 + 40 * 4)
        for count in (41, 42, 60):
            self.check_refused((1, 1, 1, 1), 0, [60] * count)
            self.check_refused((0, 0, 0, 0), 0, [60] * count)

    def test_wrong_number_in_each_place(self):
        for place in range(5):
            for wrong in NO_NUMBERS:
                numbers = [0, 127, 60, 61, 62]
                numbers[place] = wrong
                self.check_refused((1, 1, 1, 1), 0, numbers)
        for wrong in NO_NUMBERS:
            self.check_refused((0, 0, 0, 0), 0, [wrong])
            self.check_refused((0, 0, 0, 0), 0, [60] * 39 + [wrong])

    def test_wrong_key(self):
        for in_key in NO_KEYS:
            self.check_refused((1, 1, 1, 1), in_key, [60, 61])
            self.check_refused((0, 0, 0, 0), in_key, [])

    def test_several_wrong(self):
        self.check_refused((1, 1, 1, 1), 8, [128] * 41)

    def test_ends_are_taken(self):
        for in_key in (-7, 7):
            self.assertEqual(len(spell(1, 1, 1, 1, in_key, [0, 127])), 9)


class HandedInTest(SpellCase):
    def test_what_is_handed_in_stays(self):
        numbers = [60, 61, 66, 60]
        answer = spell(1, 1, 1, 1, 0, numbers)
        self.assertEqual(numbers, [60, 61, 66, 60])
        answer.append(99)
        answer[0] = 99
        self.assertEqual(numbers, [60, 61, 66, 60])

    def test_what_is_handed_in_is_not_changed_for_a_while(self):
        numbers = [60, 61, 66, 60]
        self.assertEqual(spell(1, 1, 1, 1, 0, Unchangeable(numbers)), spelled_by_the_words((1, 1, 1, 1), 0, numbers))
        self.assertEqual(spell(1, 1, 1, 1, 0, Unchangeable(numbers + [128])), [-1])

    def test_nothing_is_kept(self):
        fresh = spell(1, 1, 1, 1, 0, [60, 61])
        spell(0, 9, 0, 9, 7, [60, 61]).append(99)
        spell(1, 1, 1, 1, 8, [60, 61])
        spell(1, 1, 1, 1, 0, [])
        self.assertEqual(spell(1, 1, 1, 1, 0, [60, 61]), fresh)
        self.assertEqual(fresh, spelled_by_the_words((1, 1, 1, 1), 0, [60, 61]))


if __name__ == "__main__":
    unittest.main()
