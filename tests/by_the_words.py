"""What several tests look at: numbers that are refused, notes and keys as the document tells them, bars to try."""

LOWEST_NUMBER = -2147483648
HIGHEST_NUMBER = 2147483647
NO_KEYS = (LOWEST_NUMBER, -8, 8, HIGHEST_NUMBER)
NO_LETTERS = (LOWEST_NUMBER, -1, 7, HIGHEST_NUMBER)
NO_RAISINGS = (LOWEST_NUMBER, -4, 4, HIGHEST_NUMBER)
NO_OCTAVES = (LOWEST_NUMBER, -2, 10, HIGHEST_NUMBER)
NO_STEPS = (LOWEST_NUMBER, -101, 101, HIGHEST_NUMBER)
NO_HALVES = (LOWEST_NUMBER, -201, 201, HIGHEST_NUMBER)

C, D, E, F, G, A, B = range(7)
ORDER = (F, C, G, D, A, E, B)
NATURAL_SOUNDS = (0, 2, 4, 5, 7, 9, 11)


def in_one_list(bars):
    numbers = [len(bars)]
    for notes in bars:
        numbers.append(len(notes))
        for note in notes:
            numbers.extend(note)
    return numbers


def written_in_one_list(bars):
    """Bars of what's written: letter, octave, and the sign or None."""
    numbers = [len(bars)]
    for written in bars:
        numbers.append(len(written))
        for letter, octave, sign in written:
            numbers.extend([letter, octave, 0] if sign is None else [letter, octave, 1, sign])
    return numbers


def answer_of_read(bars):
    answer = [len(bars)]
    for notes in bars:
        answer.append(3 * len(notes))
        for note in notes:
            answer.extend(note)
    return answer


def handed_to_read(numbers):
    """What write answered, in the form in which read takes it."""
    bars = []
    place = 1
    for bar in range(numbers[0]):
        end = place + 1 + numbers[place]
        bars.append([
            (numbers[start], numbers[start + 1], numbers[start + 3] if numbers[start + 2] else None)
            for start in range(place + 1, end, 5)
        ])
        place = end
    return written_in_one_list(bars)


def every_note():
    return [
        (letter, raised, octave)
        for octave in range(-1, 10)
        for letter in range(7)
        for raised in range(-3, 4)
    ]


def step_and_sound(note):
    letter, raised, octave = note
    return 7 * octave + letter, 12 * (octave + 1) + NATURAL_SOUNDS[letter] + raised


def by_key(in_key, letter):
    if in_key > 0 and letter in ORDER[:in_key]:
        return 1
    if in_key < 0 and letter in ORDER[in_key:]:
        return -1
    return 0


def folded(fifths):
    """What's above 7 ends in the highest twelve keys, what's below -7 in the lowest twelve."""
    if fifths > 7:
        return (fifths + 4) % 12 - 4
    if fifths < -7:
        return (fifths + 7) % 12 - 7
    return fifths


def drawn_from(seed):
    """A function that takes one of some choices, as it follows from the seed alone."""
    state = seed

    def drawn(choices):
        nonlocal state
        state = (state * 1103515245 + 12345) % 2147483648
        return choices[(state >> 16) % len(choices)]

    return drawn


def many_bars(seed, bars, most_notes, letters, raisings, octaves):
    drawn = drawn_from(seed)
    return [
        [(drawn(letters), drawn(raisings), drawn(octaves)) for note in range(drawn(range(most_notes + 1)))]
        for bar in range(bars)
    ]


class Unchangeable(list):
    def refuse(self, *arguments, **named):
        raise AssertionError("what was handed in is changed")

    append = extend = insert = pop = remove = clear = sort = reverse = refuse
    __setitem__ = __delitem__ = __iadd__ = __imul__ = refuse
