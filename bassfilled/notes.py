"""Notes: a step and an alteration, how they sound and what they are called."""

STEPS = 70
OCTAVE_STEPS = 7
OCTAVE_SEMITONES = 12
MOST_ALTERED = 2
SEMITONES = (0, 2, 4, 5, 7, 9, 11)


def is_alteration(alteration):
    return -MOST_ALTERED <= alteration <= MOST_ALTERED


def is_note(step, alteration):
    return 0 <= step < STEPS and is_alteration(alteration)


def are_notes(numbers):
    if len(numbers) % 2 != 0:
        return False
    return all([is_note(numbers[k], numbers[k + 1]) for k in range(0, len(numbers), 2)])


def sound_of(step, alteration):
    return OCTAVE_SEMITONES * (step // OCTAVE_STEPS) + SEMITONES[step % OCTAVE_STEPS] + alteration


def make_note(step, alteration):
    # The sound stands first, so that notes compare in the order in which settings come.
    return (sound_of(step, alteration), step, alteration)


def name_of(note):
    return (note[1] % OCTAVE_STEPS, note[2])
