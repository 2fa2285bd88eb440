"""The calls: read out of one list of whole numbers, answered in another one."""

from bassfilled.chords import Chord, are_names, has_bass
from bassfilled.judging import judgement, settings_from
from bassfilled.notes import are_notes
from bassfilled.rules import Rules, are_rules, first_rules
from bassfilled.settings import numbers_of, setting_cost, settings_of
from bassfilled.tallies import COSTS
from bassfilled.ways import Ways

RULES = 1
CHORD = 2
DROP = 3
SETTINGS = 4
COUNT = 5
COUNTS = 6
NTH = 7
JUDGE = 8
MOST_CHORDS = 8
SETTING_NUMBERS = 6


class Filling:
    def __init__(self):
        self.rules = first_rules()
        self.chords = []
        self.ways = None

    def ways_now(self):
        # Kept for the calls to come: they are long to reckon, and only rules and chords change them.
        if self.ways is None:
            self.ways = Ways(self.rules, self.chords)
        return self.ways

    def take_rules(self, numbers):
        if not are_rules(numbers):
            return [-1]
        self.rules = Rules(numbers)
        self.ways = None
        return [0]

    def add_chord(self, numbers):
        if not has_bass(numbers):
            return [-1]
        if not are_names(numbers[2:]):
            return [-2]
        if len(self.chords) >= MOST_CHORDS:
            return [-5]
        chord = Chord(numbers)
        self.chords.append(chord)
        self.ways = None
        return [len(self.chords) - 1, len(settings_of(self.rules, chord))]

    def drop_chord(self):
        if len(self.chords) == 0:
            return [-3]
        self.chords.pop()
        self.ways = None
        return [len(self.chords)]

    def tell_setting(self, i, k):
        if not 0 <= i < len(self.chords) or k < 0:
            return [-1]
        # Reckoned anew each time: the rules may have changed since the chord came.
        settings = settings_of(self.rules, self.chords[i])
        if k >= len(settings):
            return [-3]
        cost = setting_cost(self.rules, self.chords[i], settings[k])
        return [len(settings)] + numbers_of(settings[k]) + [cost]

    def tell_count(self, p):
        if not 0 <= p < COSTS:
            return [-1]
        if len(self.chords) == 0:
            return [-7]
        numbers = self.ways_now().numbers
        return [sum(numbers[:p + 1]), numbers[p]]

    def tell_counts(self):
        if len(self.chords) == 0:
            return [-7]
        numbers = self.ways_now().numbers
        costs = [cost for cost in range(COSTS) if numbers[cost] > 0]
        answer = [len(costs)]
        for cost in costs:
            answer.extend([cost, numbers[cost]])
        return answer

    def tell_way(self, n):
        if n < 0:
            return [-1]
        if len(self.chords) == 0:
            return [-7]
        ways = self.ways_now()
        if n >= ways.how_many():
            return [-3]
        way = ways.nth(n)
        answer = [way[0]]
        for setting in way[1]:
            answer.extend(numbers_of(setting))
        return answer

    def judge(self, numbers):
        if not are_notes(numbers):
            return [-2]
        if len(self.chords) == 0:
            return [-7]
        if len(numbers) != SETTING_NUMBERS * len(self.chords):
            return [-2]
        return judgement(self.rules, self.chords, settings_from(numbers))


def call_end(calls, at):
    if calls[at] in (RULES, CHORD, JUDGE):
        return at + 2 + calls[at + 1]
    if calls[at] in (DROP, COUNTS):
        return at + 1
    if calls[at] in (COUNT, NTH):
        return at + 2
    return at + 3


def answer_to(filling, call):
    if call[0] == RULES:
        return filling.take_rules(call[2:])
    if call[0] == CHORD:
        return filling.add_chord(call[2:])
    if call[0] == DROP:
        return filling.drop_chord()
    if call[0] == SETTINGS:
        return filling.tell_setting(call[1], call[2])
    if call[0] == COUNT:
        return filling.tell_count(call[1])
    if call[0] == COUNTS:
        return filling.tell_counts()
    if call[0] == NTH:
        return filling.tell_way(call[1])
    return filling.judge(call[2:])


def answers(calls):
    filling = Filling()
    told = []
    at = 0
    while at < len(calls):
        end = call_end(calls, at)
        answer = answer_to(filling, calls[at:end])
        told.append(len(answer))
        told.extend(answer)
        at = end
    return told
