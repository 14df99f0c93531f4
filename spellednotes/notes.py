"""Notes as they're spelled, and the intervals between them."""

DONE = 0
REFUSED = -1
NO_NOTE = -6

LETTERS = 7
HALVES_IN_OCTAVE = 12
MOST_RAISED = 3
LOWEST_OCTAVE = -1
HIGHEST_OCTAVE = 9
MOST_STEPS = 100
MOST_HALVES = 200

# One row serves letters and intervals: the usual interval of so many steps is the one up from c to that letter.
HALVES_ABOVE_C = (0, 2, 4, 5, 7, 9, 11)
PERFECT_RESTS = (0, 3, 4)


def is_note(letter, raised, octave):
    if not 0 <= letter < LETTERS:
        return False
    if not -MOST_RAISED <= raised <= MOST_RAISED:
        return False
    return LOWEST_OCTAVE <= octave <= HIGHEST_OCTAVE


def is_interval(steps, halves):
    return -MOST_STEPS <= steps <= MOST_STEPS and -MOST_HALVES <= halves <= MOST_HALVES


def step_of(letter, octave):
    return LETTERS * octave + letter


def sound_of(letter, raised, octave):
    return HALVES_IN_OCTAVE * (octave + 1) + HALVES_ABOVE_C[letter] + raised


def moved(letter, raised, octave, steps, halves):
    """The letter, raising and octave that come of the move, be they a note or not."""
    # Both divisions round down, below step 0 too, so the letter stays from 0 to 6.
    step = step_of(letter, octave) + steps
    new_letter = step % LETTERS
    new_octave = step // LETTERS
    sound = sound_of(letter, raised, octave) + halves
    return (new_letter, sound - sound_of(new_letter, 0, new_octave), new_octave)


def direction_of(steps, halves):
    if steps < 0 or (steps == 0 and halves < 0):
        return -1
    return 1


def usual_halves(steps):
    return HALVES_IN_OCTAVE * (steps // LETTERS) + HALVES_ABOVE_C[steps % LETTERS]


def perfect_kind(more):
    if more > 0:
        return more + 1
    if more < 0:
        return more - 1
    return 0


def other_kind(more):
    # Minor is -1 already, so what's below it is counted on from there; major is 1.
    if more < 0:
        return more
    return more + 1


def kind_of(steps, halves):
    """The kind of an interval that's taken upwards."""
    more = halves - usual_halves(steps)
    if steps % LETTERS in PERFECT_RESTS:
        return perfect_kind(more)
    return other_kind(more)


def with_list(first, numbers):
    return [first, len(numbers)] + list(numbers)


def between(letter, raised, octave, letter_two, raised_two, octave_two):
    """Answers 0, 5, steps, half steps, direction, number, kind; or -1 alone."""
    if not is_note(letter, raised, octave) or not is_note(letter_two, raised_two, octave_two):
        return [REFUSED]
    steps = step_of(letter_two, octave_two) - step_of(letter, octave)
    halves = sound_of(letter_two, raised_two, octave_two) - sound_of(letter, raised, octave)
    direction = direction_of(steps, halves)
    number = direction * steps + 1
    kind = kind_of(direction * steps, direction * halves)
    return with_list(DONE, [steps, halves, direction, number, kind])


def move(letter, raised, octave, steps, halves):
    """Answers 0, 3, letter, raised, octave; or -1 or -6 alone."""
    if not is_note(letter, raised, octave) or not is_interval(steps, halves):
        return [REFUSED]
    note = moved(letter, raised, octave, steps, halves)
    if not is_note(note[0], note[1], note[2]):
        return [NO_NOTE]
    return with_list(DONE, note)
