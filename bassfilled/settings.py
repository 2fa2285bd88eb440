"""Settings: the three notes above a chord's bass, which there are and what they cost."""

from bassfilled.notes import OCTAVE_STEPS, STEPS, make_note, name_of


def notes_within(names, low, high):
    found = []
    for name in names:
        for step in range(name[0], STEPS, OCTAVE_STEPS):
            note = make_note(step, name[1])
            if low <= note[0] <= high:
                found.append(note)
    return sorted(found)


def is_near_above(upper, lower, apart):
    return 0 <= upper[0] - lower[0] <= apart


def near_above(uppers, lower, apart):
    return [upper for upper in uppers if is_near_above(upper, lower, apart)]


def near_below(lowers, upper, apart):
    return [lower for lower in lowers if is_near_above(upper, lower, apart)]


def missing_names(chord, setting):
    heard = [name_of(note) for note in setting]
    heard.append(name_of(chord.bass))
    return [name for name in chord.names if name not in heard]


def is_complete(chord, setting):
    return all([chord.may_lack[name] for name in missing_names(chord, setting)])


def settings_of(rules, chord):
    choices = [notes_within(chord.names, reach[0], reach[1]) for reach in rules.ranges]
    tenors = near_above(choices[2], chord.bass, rules.apart[2])
    found = []
    # Each voice's notes come in order, so the settings do too.
    for soprano in choices[0]:
        for alto in near_below(choices[1], soprano, rules.apart[0]):
            for tenor in near_below(tenors, alto, rules.apart[1]):
                setting = (soprano, alto, tenor)
                if is_complete(chord, setting):
                    found.append(setting)
    return found


def fits_voice(rules, chord, voice, note):
    reach = rules.ranges[voice]
    return name_of(note) in chord.names and reach[0] <= note[0] <= reach[1]


def is_setting(rules, chord, setting):
    four = [setting[0], setting[1], setting[2], chord.bass]
    for voice in range(len(setting)):
        if not fits_voice(rules, chord, voice, four[voice]):
            return False
        if not is_near_above(four[voice], four[voice + 1], rules.apart[voice]):
            return False
    return is_complete(chord, setting)


def has_name_twice(setting):
    return len(set([name_of(note) for note in setting])) < len(setting)


def setting_cost(rules, chord, setting):
    cost = rules.left * len(missing_names(chord, setting))
    if has_name_twice(setting):
        cost += rules.twice
    return cost


def four_sounds(chord, setting):
    return (setting[0][0], setting[1][0], setting[2][0], chord.bass[0])


def numbers_of(setting):
    numbers = []
    for note in setting:
        numbers.extend([note[1], note[2]])
    return numbers
