"""Moves: what is wrong from one setting's sounds to the next one's, and how far the voices go."""

from bassfilled.notes import OCTAVE_SEMITONES

PARALLEL = 1
LEAP = 2
BEYOND = 3
NOBODY = 9
SOPRANO = 0
ALTO = 1
TENOR = 2
BASS = 3
PERFECT = (0, 7)
NOT_BARRED = -1


def apart_but_for_octaves(one, other):
    return (one - other) % OCTAVE_SEMITONES


def barred_apart(one, other, next_one):
    """How far apart they may not be again, one of them having gone to next_one, if the other goes as well."""
    apart = apart_but_for_octaves(one, other)
    if next_one == one or apart not in PERFECT:
        return NOT_BARRED
    return apart


def is_parallel(one, other, next_one, next_other):
    barred = barred_apart(one, other, next_one)
    return next_other != other and apart_but_for_octaves(next_one, next_other) == barred


def places_not_barred(barred, other, next_one, places):
    if barred == NOT_BARRED:
        return places
    return [place for place in places if place == other or apart_but_for_octaves(next_one, place) != barred]


def parallels(here, there):
    found = []
    for voice in range(BASS):
        for other in range(voice + 1, BASS + 1):
            if is_parallel(here[voice], here[other], there[voice], there[other]):
                found.append((PARALLEL, voice, other))
    return found


def leaps_too_far(rules, here, there):
    return [(LEAP, voice, NOBODY) for voice in range(BASS) if abs(there[voice] - here[voice]) > rules.leaps[voice]]


def moves_beyond(here, there):
    found = []
    for upper in range(BASS):
        lower = upper + 1
        if there[lower] > here[upper]:
            found.append((BEYOND, lower, upper))
        if there[upper] < here[lower]:
            found.append((BEYOND, upper, lower))
    return found


def wrong_moves(rules, here, there):
    """All that is wrong from four sounds to the next four, the bass last, in the order in which it is told."""
    return parallels(here, there) + leaps_too_far(rules, here, there) + moves_beyond(here, there)


def semitones_moved(here, there):
    return sum([abs(there[voice] - here[voice]) for voice in range(BASS)])
