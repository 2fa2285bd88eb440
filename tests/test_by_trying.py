"""Settings of many chords under many rules, against a plain trial of all triples of notes."""

import itertools
import random
import unittest

from tests.calling import FIRST_RULES, all_settings, chord, drop, rules, setting, tell

C_TO_B = {0: 0, 1: 2, 2: 4, 3: 5, 4: 7, 5: 9, 6: 11}


def sound(note):
    octave, step = divmod(note[0], 7)
    return octave * 12 + C_TO_B[step] + note[1]


def name(note):
    return (note[0] % 7, note[1])


def is_setting(given, bass, names, notes):
    for voice, note in enumerate(notes):
        if name(note) not in names or not given[2 * voice] <= sound(note) <= given[2 * voice + 1]:
            return False
    four = list(notes) + [bass]
    for voice in range(3):
        higher = sound(four[voice]) - sound(four[voice + 1])
        if higher < 0 or higher > given[6 + voice]:
            return False
    heard = {name(note) for note in four}
    return all(one in heard or may_lack for one, may_lack in names.items())


def cost(given, bass, names, notes):
    above = [name(note) for note in notes]
    lacking = set(names) - set(above) - {name(bass)}
    return (given[12] if max(above.count(one) for one in above) > 1 else 0) + given[13] * len(lacking)


def by_trying(given, numbers):
    bass = (numbers[0], numbers[1])
    names = {(numbers[k], numbers[k + 1]): numbers[k + 2] == 1 for k in range(2, len(numbers), 3)}
    notes = [(step, altered) for step in range(70) for altered in range(-2, 3) if (step % 7, altered) in names]
    reached = [[note for note in notes if given[2 * voice] <= sound(note) <= given[2 * voice + 1]]
               for voice in range(3)]
    found = [three for three in itertools.product(*reached) if is_setting(given, bass, names, three)]
    found.sort(key=lambda three: [(sound(note), note[0]) for note in three])
    return [[len(found)] + [number for note in three for number in note] + [cost(given, bass, names, three)]
            for three in found]


def some_rules(source):
    if source.randrange(4) == 0:
        return list(FIRST_RULES)
    given = []
    base = source.randrange(0, 80)
    for above in (24, 12, 0):
        low = min(119, max(0, base + above + source.randrange(-6, 7)))
        given.extend([low, min(119, low + source.choice((0, 5, 12, 19, 24)))])
    given.extend([source.choice((0, 7, 12, 24, 60)) for voice in range(3)])
    given.extend([source.randrange(61) for voice in range(3)])
    return given + [source.randrange(21) for price in range(3)]


def some_chord(source, given):
    octave = min(9, max(0, given[4] // 12 - source.randrange(3)))
    numbers = [7 * octave + source.randrange(7), source.choice((-2, -1, 0, 0, 0, 1, 2))]
    names = [(step, altered) for step in range(7) for altered in source.choice(((0,), (-1, 0, 1), (-2, 2)))]
    for one in source.sample(names, source.randrange(1, 5)):
        numbers.extend([one[0], one[1], source.randrange(2)])
    return numbers


class ByTrying(unittest.TestCase):
    def compare(self, given, numbers):
        expected = by_trying(given, numbers)
        before = [rules(given), chord(*numbers)]
        self.assertEqual(tell(*before, setting(0, len(expected))), [[0], [0, len(expected)], [-3]])
        self.assertEqual(all_settings(before, 0, len(expected)), expected)
        return len(expected)

    def test_many_chords(self):
        source = random.Random(20261118)
        with_settings = 0
        for trial in range(400):
            given = some_rules(source)
            numbers = some_chord(source, given)
            with self.subTest(rules=given, chord=numbers):
                with_settings += self.compare(given, numbers) > 0
        self.assertGreater(with_settings, 100)

    def test_first_rules(self):
        # Every name by itself above each bass, and with another that may lack: each end of each range is met.
        for bass in range(14, 42):
            for step in range(7):
                for altered in range(-2, 3):
                    numbers = [bass, 0, step, altered, 0, (step + 2) % 7, 0, 1]
                    expected = by_trying(FIRST_RULES, numbers)
                    k = len(expected) // 2
                    found = tell(chord(*numbers), setting(0, k))
                    with self.subTest(chord=numbers):
                        self.assertEqual(found, [[0, len(expected)], expected[k] if expected else [-3]])

    def test_first_rules_at_each_sound(self):
        # All the voices' notes from 48 to 79 come in single names, so no rule is off by a semitone.
        for step in range(7):
            for altered in range(-2, 3):
                for bass in range(14, 36):
                    numbers = [bass, 0, step, altered, 0]
                    with self.subTest(chord=numbers):
                        self.assertEqual(tell(chord(*numbers)), [[0, len(by_trying(FIRST_RULES, numbers))]])

    def test_as_many_settings_as_can_be(self):
        given = [48, 72, 48, 72, 48, 72, 60, 60, 60, 0, 0, 0, 20, 20, 20]
        self.assertGreater(self.compare(given, [28, 0, 0, 0, 1, 6, 1, 1, 1, -2, 1, 4, 0, 1]), 300)

    def test_rules_changed_between(self):
        source = random.Random(7)
        for trial in range(40):
            first = some_rules(source)
            second = some_rules(source)
            numbers = some_chord(source, second)
            expected = by_trying(second, numbers)
            found = tell(rules(first), chord(*numbers), drop(), chord(*numbers), rules(second),
                         setting(0, len(expected) // 2), chord(*numbers))
            with self.subTest(first=first, second=second, chord=numbers):
                self.assertEqual(found[1], found[3])
                self.assertEqual(found[5], expected[len(expected) // 2] if expected else [-3])
                self.assertEqual(found[6], [1, len(expected)])


if __name__ == "__main__":
    unittest.main()
