"""What several tests look at: numbers that are refused, keys as the document tells them, bars to try."""

LOWEST_NUMBER = -2147483648
HIGHEST_NUMBER = 2147483647
NO_KEYS = (LOWEST_NUMBER, -8, 8, HIGHEST_NUMBER)
NO_LETTERS = (LOWEST_NUMBER, -1, 7, HIGHEST_NUMBER)
NO_RAISINGS = (LOWEST_NUMBER, -4, 4, HIGHEST_NUMBER)
NO_OCTAVES = (LOWEST_NUMBER, -2, 10, HIGHEST_NUMBER)

C, D, E, F, G, A, B = range(7)
ORDER = (F, C, G, D, A, E, B)


def in_one_list(bars):
    numbers = [len(bars)]
    for notes in bars:
        numbers.append(len(notes))
        for note in notes:
            numbers.extend(note)
    return numbers


def by_key(in_key, letter):
    if in_key > 0 and letter in ORDER[:in_key]:
        return 1
    if in_key < 0 and letter in ORDER[in_key:]:
        return -1
    return 0


def drawn_from(seed):
    """A function that takes one of some choices, as it follows from the seed alone."""
    state = seed

    def drawn(choices):
        nonlocal state
        state = (state * 1103515245 + 12345) % 2147483648
        return choices[(state >> 16) % len(choices)]

    return drawn


def many_bars(seed, bars, most_notes, letters, raisings, octaves):
    drawn = drawn_from(seed)
    return [
        [(drawn(letters), drawn(raisings), drawn(octaves)) for note in range(drawn(range(most_notes + 1)))]
        for bar in range(bars)
    ]


class Unchangeable(list):
    def refuse(self, *arguments, **named):
        raise AssertionError("what was handed in is changed")

    append = extend = insert = pop = remove = clear = sort = reverse = refuse
    __setitem__ = __delitem__ = __iadd__ = __imul__ = refuse
