"""Judging: what is wrong with the settings that somebody wrote, and what they cost."""

from bassfilled.moves import NOBODY, semitones_moved, wrong_moves
from bassfilled.notes import make_note
from bassfilled.settings import four_sounds, is_setting, setting_cost

NO_SETTING = 4
NO_WAY = -1


def settings_from(numbers):
    notes = [make_note(numbers[k], numbers[k + 1]) for k in range(0, len(numbers), 2)]
    return [(notes[k], notes[k + 1], notes[k + 2]) for k in range(0, len(notes), 3)]


def wrongs_at(rules, chords, settings, at):
    found = []
    if not is_setting(rules, chords[at], settings[at]):
        found.append((NO_SETTING, NOBODY, NOBODY))
    if at > 0:
        here = four_sounds(chords[at - 1], settings[at - 1])
        found.extend(wrong_moves(rules, here, four_sounds(chords[at], settings[at])))
    return found


def way_cost(rules, chords, settings):
    sounds = [four_sounds(chords[at], settings[at]) for at in range(len(chords))]
    cost = sum([setting_cost(rules, chords[at], settings[at]) for at in range(len(chords))])
    moved = sum([semitones_moved(sounds[at - 1], sounds[at]) for at in range(1, len(chords))])
    return cost + rules.move * moved


def judgement(rules, chords, settings):
    told = []
    for at in range(len(chords)):
        for wrong in wrongs_at(rules, chords, settings, at):
            told.append([at, wrong[0], wrong[1], wrong[2]])
    cost = NO_WAY if told else way_cost(rules, chords, settings)
    answer = [len(told), cost]
    for row in told:
        answer.extend(row)
    return answer
