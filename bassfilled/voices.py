"""The calls: read out of one list of whole numbers, answered in another one."""

from bassfilled.chords import Chord, are_names, has_bass
from bassfilled.rules import Rules, are_rules, first_rules
from bassfilled.settings import setting_cost, settings_of

RULES = 1
CHORD = 2
DROP = 3
SETTINGS = 4
MOST_CHORDS = 8


class Filling:
    def __init__(self):
        self.rules = first_rules()
        self.chords = []

    def take_rules(self, numbers):
        if not are_rules(numbers):
            return [-1]
        self.rules = Rules(numbers)
        return [0]

    def add_chord(self, numbers):
        if not has_bass(numbers):
            return [-1]
        if not are_names(numbers[2:]):
            return [-2]
        if len(self.chords) >= MOST_CHORDS:
            return [-5]
        chord = Chord(numbers)
        self.chords.append(chord)
        return [len(self.chords) - 1, len(settings_of(self.rules, chord))]

    def drop_chord(self):
        if len(self.chords) == 0:
            return [-3]
        self.chords.pop()
        return [len(self.chords)]

    def tell_setting(self, i, k):
        if not 0 <= i < len(self.chords) or k < 0:
            return [-1]
        # Reckoned anew each time: the rules may have changed since the chord came.
        settings = settings_of(self.rules, self.chords[i])
        if k >= len(settings):
            return [-3]
        answer = [len(settings)]
        for note in settings[k]:
            answer.extend([note[1], note[2]])
        answer.append(setting_cost(self.rules, self.chords[i], settings[k]))
        return answer


def call_end(calls, at):
    if calls[at] in (RULES, CHORD):
        return at + 2 + calls[at + 1]
    if calls[at] == DROP:
        return at + 1
    if calls[at] == SETTINGS:
        return at + 3
    raise NotImplementedError("there are the calls 1 to 4 only")


def answer_to(filling, call):
    if call[0] == RULES:
        return filling.take_rules(call[2:])
    if call[0] == CHORD:
        return filling.add_chord(call[2:])
    if call[0] == DROP:
        return filling.drop_chord()
    return filling.tell_setting(call[1], call[2])


def answers(calls):
    filling = Filling()
    told = []
    at = 0
    while at < len(calls):
        end = call_end(calls, at)
        answer = answer_to(filling, calls[at:end])
        told.append(len(answer))
        told.extend(answer)
        at = end
    return told
