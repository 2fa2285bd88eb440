"""Chords: a bass note and the names that are to be heard with it."""

from bassfilled.notes import OCTAVE_STEPS, is_alteration, is_note, make_note

MOST_NAMES = 4


class Chord:
    def __init__(self, numbers):
        self.bass = make_note(numbers[0], numbers[1])
        self.names = []
        self.may_lack = {}
        for k in range(2, len(numbers), 3):
            name = (numbers[k], numbers[k + 1])
            self.names.append(name)
            self.may_lack[name] = numbers[k + 2] == 1


def has_bass(numbers):
    return len(numbers) >= 2 and is_note(numbers[0], numbers[1])


def is_name(step, alteration, may_lack):
    return 0 <= step < OCTAVE_STEPS and is_alteration(alteration) and 0 <= may_lack <= 1


def are_names(numbers):
    if len(numbers) % 3 != 0 or not 3 <= len(numbers) <= 3 * MOST_NAMES:
        return False
    seen = []
    for k in range(0, len(numbers), 3):
        # Whether it may be left out is no part of a name: the same with 0 and with 1 is one twice.
        name = (numbers[k], numbers[k + 1])
        if name in seen or not is_name(numbers[k], numbers[k + 1], numbers[k + 2]):
            return False
        seen.append(name)
    return True
