"""Notes as they're spelled: intervals, keys, what's written in bars and for instruments, numbers spelled."""

DONE = 0
REFUSED = -1
NO_NOTE = -6

LETTERS = 7
HALVES_IN_OCTAVE = 12
MOST_RAISED = 3
LOWEST_OCTAVE = -1
HIGHEST_OCTAVE = 9
MOST_STEPS = 100
MOST_HALVES = 200
MOST_IN_KEY = 7
FIFTHS_IN_CIRCLE = 12
FIFTHS_IN_RAISING = 7
NUMBERS_IN_NOTE = 3
NUMBERS_WITHOUT_SIGN = 3
NUMBERS_WITH_SIGN = 4
MOST_NUMBERS = 40
HIGHEST_SOUND = 127
NEAR_FIFTHS = 5
# A key's seven letters lie around this many fifths above the key itself.
MIDDLE_OF_KEY = 2

# One row serves letters and intervals: the usual interval of so many steps is the one up from c to that letter.
HALVES_ABOVE_C = (0, 2, 4, 5, 7, 9, 11)
PERFECT_RESTS = (0, 3, 4)
FIFTHS_OF_LETTERS = (0, 2, 4, -1, 1, 3, 5)


def is_note(letter, raised, octave):
    if not 0 <= letter < LETTERS:
        return False
    if not -MOST_RAISED <= raised <= MOST_RAISED:
        return False
    return LOWEST_OCTAVE <= octave <= HIGHEST_OCTAVE


def is_interval(steps, halves):
    return -MOST_STEPS <= steps <= MOST_STEPS and -MOST_HALVES <= halves <= MOST_HALVES


def is_key(in_key):
    return -MOST_IN_KEY <= in_key <= MOST_IN_KEY


def step_of(letter, octave):
    return LETTERS * octave + letter


def sound_of(letter, raised, octave):
    return HALVES_IN_OCTAVE * (octave + 1) + HALVES_ABOVE_C[letter] + raised


def moved(letter, raised, octave, steps, halves):
    """The letter, raising and octave that come of the move, be they a note or not."""
    # Both divisions round down, below step 0 too, so the letter stays from 0 to 6.
    step = step_of(letter, octave) + steps
    new_letter = step % LETTERS
    new_octave = step // LETTERS
    sound = sound_of(letter, raised, octave) + halves
    return (new_letter, sound - sound_of(new_letter, 0, new_octave), new_octave)


def direction_of(steps, halves):
    if steps < 0 or (steps == 0 and halves < 0):
        return -1
    return 1


def usual_halves(steps):
    return HALVES_IN_OCTAVE * (steps // LETTERS) + HALVES_ABOVE_C[steps % LETTERS]


def perfect_kind(more):
    if more > 0:
        return more + 1
    if more < 0:
        return more - 1
    return 0


def other_kind(more):
    # Minor is -1 already, so what's below it is counted on from there; major is 1.
    if more < 0:
        return more
    return more + 1


def kind_of(steps, halves):
    """The kind of an interval that's taken upwards."""
    more = halves - usual_halves(steps)
    if steps % LETTERS in PERFECT_RESTS:
        return perfect_kind(more)
    return other_kind(more)


def fifths_of(letter, raised):
    return FIFTHS_OF_LETTERS[letter] + FIFTHS_IN_RAISING * raised


def interval_fifths(steps, halves):
    # Fifths don't hang on the octave, so the c of any octave would do.
    note = moved(0, 0, 0, steps, halves)
    return fifths_of(note[0], note[1])


def moved_key(in_key, steps, halves):
    fifths = in_key + interval_fifths(steps, halves)
    while fifths > MOST_IN_KEY:
        fifths -= FIFTHS_IN_CIRCLE
    while fifths < -MOST_IN_KEY:
        fifths += FIFTHS_IN_CIRCLE
    return fifths


def raised_by_key(in_key, letter):
    # The order of letters, f c g d a e b, is that of their fifths, which begin at -1.
    place = FIFTHS_OF_LETTERS[letter] + 1
    if place < in_key:
        return 1
    if place >= LETTERS + in_key:
        return -1
    return 0


def notes_in(numbers):
    return [
        tuple(numbers[start:start + NUMBERS_IN_NOTE])
        for start in range(0, len(numbers), NUMBERS_IN_NOTE)
    ]


def bars_in(numbers):
    bars = []
    place = 1
    while len(bars) < numbers[0]:
        start = place + 1
        place = start + NUMBERS_IN_NOTE * numbers[place]
        bars.append(notes_in(numbers[start:place]))
    return bars


def are_notes(notes):
    for letter, raised, octave in notes:
        if not is_note(letter, raised, octave):
            return False
    return True


def letters_raised_otherwise(in_key, notes):
    return [letter for letter, raised, octave in notes if raised != raised_by_key(in_key, letter)]


def written_bar(in_key, notes, letters_otherwise):
    """Five numbers for each note; letters_otherwise are those that the bar before raised otherwise than the key."""
    # Kept by step, since a step is one letter in one octave; what's missing is in force by the key.
    in_force = {}
    written = []
    for letter, raised, octave in notes:
        step = step_of(letter, octave)
        by_key = raised_by_key(in_key, letter)
        sign = [0, 0] if raised == in_force.get(step, by_key) else [1, raised]
        warned = step not in in_force and raised == by_key and letter in letters_otherwise
        written.extend([letter, octave] + sign + [1 if warned else 0])
        in_force[step] = raised
    return written


def written_bars_in(numbers):
    """Each bar as a list of letter, octave, and the sign or None."""
    bars = []
    place = 1
    while len(bars) < numbers[0]:
        count = numbers[place]
        place += 1
        written = []
        while len(written) < count:
            sign = numbers[place + 3] if numbers[place + 2] == 1 else None
            written.append((numbers[place], numbers[place + 1], sign))
            place += NUMBERS_WITHOUT_SIGN if sign is None else NUMBERS_WITH_SIGN
        bars.append(written)
    return bars


def are_written(written):
    for letter, octave, sign in written:
        if not is_note(letter, 0 if sign is None else sign, octave):
            return False
    return True


def read_bar(in_key, written):
    """Three numbers for each note."""
    in_force = {}
    notes = []
    for letter, octave, sign in written:
        step = step_of(letter, octave)
        if sign is not None:
            in_force[step] = sign
        notes.extend([letter, in_force.get(step, raised_by_key(in_key, letter)), octave])
    return notes


def are_sounds(numbers):
    for number in numbers:
        if not 0 <= number <= HIGHEST_SOUND:
            return False
    return True


def spellings_of(sound):
    """All notes that sound so, in order of their steps."""
    notes = []
    for octave in range(LOWEST_OCTAVE, HIGHEST_OCTAVE + 1):
        for letter in range(LETTERS):
            raised = sound - sound_of(letter, 0, octave)
            if is_note(letter, raised, octave):
                notes.append((letter, raised, octave))
    return notes


def beyond_five(number):
    return max(abs(number) - NEAR_FIFTHS, 0)


def note_cost(sign, far, in_key, note):
    otherwise = abs(note[1] - raised_by_key(in_key, note[0]))
    from_middle = fifths_of(note[0], note[1]) - (in_key + MIDDLE_OF_KEY)
    return sign * otherwise + far * beyond_five(from_middle)


def neighbours_cost(apart, same, first, second):
    cost = apart * beyond_five(fifths_of(second[0], second[1]) - fifths_of(first[0], first[1]))
    if first[0] == second[0] and first[1] != second[1]:
        cost += same
    return cost


def put_ahead(apart, same, note, row):
    """The row with the note ahead of it; what the note costs by itself is not in it yet."""
    cost = row[0]
    notes = row[1]
    if len(notes) > 0:
        cost += neighbours_cost(apart, same, note, notes[0])
    return (cost, [note] + notes)


def cheapest(rows):
    # Rows stand in order of their first steps, and min takes the first of those that cost alike.
    return min(rows, key=lambda row: row[0])


def spelled(sign, apart, far, same, in_key, numbers):
    """What the row costs, and its notes."""
    # Built from the last note back, keeping for each spelling of a number the cheapest row that begins with it.
    # Of rows that cost alike the one with the lower first step is taken each time, so the earliest note decides.
    rows = [(0, [])]
    for number in reversed(numbers):
        longer = []
        for note in spellings_of(number):
            row = cheapest([put_ahead(apart, same, note, behind) for behind in rows])
            longer.append((row[0] + note_cost(sign, far, in_key, note), row[1]))
        rows = longer
    return cheapest(rows)


def written_for(letter, raised, octave, steps, halves):
    """The note moved; if that's no note, what sounds so on a neighbouring step, be it a note or not."""
    note = moved(letter, raised, octave, steps, halves)
    if is_note(note[0], note[1], note[2]):
        return note
    below = moved(letter, raised, octave, steps - 1, halves)
    above = moved(letter, raised, octave, steps + 1, halves)
    if abs(above[1]) < abs(below[1]):
        return above
    return below


def counted(numbers):
    return [len(numbers)] + list(numbers)


def between(letter, raised, octave, letter_two, raised_two, octave_two):
    """Answers 0, 5, steps, half steps, direction, number, kind; or -1 alone."""
    if not is_note(letter, raised, octave) or not is_note(letter_two, raised_two, octave_two):
        return [REFUSED]
    steps = step_of(letter_two, octave_two) - step_of(letter, octave)
    halves = sound_of(letter_two, raised_two, octave_two) - sound_of(letter, raised, octave)
    direction = direction_of(steps, halves)
    number = direction * steps + 1
    kind = kind_of(direction * steps, direction * halves)
    return [DONE] + counted([steps, halves, direction, number, kind])


def move(letter, raised, octave, steps, halves):
    """Answers 0, 3, letter, raised, octave; or -1 or -6 alone."""
    if not is_note(letter, raised, octave) or not is_interval(steps, halves):
        return [REFUSED]
    note = moved(letter, raised, octave, steps, halves)
    if not is_note(note[0], note[1], note[2]):
        return [NO_NOTE]
    return [DONE] + counted(note)


def key(in_key, steps, halves):
    """Answers 0, 1, the key moved; or -1 alone."""
    if not is_key(in_key) or not is_interval(steps, halves):
        return [REFUSED]
    return [DONE] + counted([moved_key(in_key, steps, halves)])


def write(in_key, bars):
    """Answers how many bars, then each as a list: letter, octave, 1 and sign or 0 0, 1 if warned of; or -1 alone."""
    if not is_key(in_key):
        return [REFUSED]
    answer = [bars[0]]
    letters_otherwise = []
    for notes in bars_in(bars):
        if not are_notes(notes):
            return [REFUSED]
        answer.extend(counted(written_bar(in_key, notes, letters_otherwise)))
        letters_otherwise = letters_raised_otherwise(in_key, notes)
    return answer


def read(in_key, bars):
    """Answers how many bars, then each as a list of its notes: letter, raised, octave; or -1 alone."""
    if not is_key(in_key):
        return [REFUSED]
    answer = [bars[0]]
    for written in written_bars_in(bars):
        if not are_written(written):
            return [REFUSED]
        answer.extend(counted(read_bar(in_key, written)))
    return answer


def spell(sign, apart, far, same, in_key, numbers):
    """Answers what the row costs, then each note as a list: 3, letter, raised, octave; or -1 alone."""
    if not is_key(in_key) or len(numbers) > MOST_NUMBERS or not are_sounds(numbers):
        return [REFUSED]
    row = spelled(sign, apart, far, same, in_key, numbers)
    answer = [row[0]]
    for note in row[1]:
        answer.extend(counted(note))
    return answer


def part(steps, halves, lowest, highest, in_key, notes):
    """Answers how many notes don't fit, then 1, the key moved, then of each note a list; or -1 alone.

    The list: 4, letter, raised, octave of what's written for it, and 1 if it fits, else 0.
    """
    sounding = notes_in(notes)
    if not is_interval(steps, halves) or not is_key(in_key) or not are_notes(sounding):
        return [REFUSED]
    not_fitting = 0
    answer = counted([moved_key(in_key, steps, halves)])
    for letter, raised, octave in sounding:
        fits = 1 if lowest <= sound_of(letter, raised, octave) <= highest else 0
        not_fitting += 1 - fits
        answer.extend(counted(list(written_for(letter, raised, octave, steps, halves)) + [fits]))
    return [not_fitting] + answer
