"""Settings, ways and judgements under many rules, against a plain trial of all there could be."""

import itertools
import random
import unittest

from tests.calling import (
    FIRST_RULES, all_settings, chord, count, counts, drop, judge, last, nth, rules, setting, tell)

C_TO_B = {0: 0, 1: 2, 2: 4, 3: 5, 4: 7, 5: 9, 6: 11}


def sound(note):
    octave, step = divmod(note[0], 7)
    return octave * 12 + C_TO_B[step] + note[1]


def name(note):
    return (note[0] % 7, note[1])


def is_setting(given, bass, names, notes):
    for voice, note in enumerate(notes):
        if name(note) not in names or not given[2 * voice] <= sound(note) <= given[2 * voice + 1]:
            return False
    four = list(notes) + [bass]
    for voice in range(3):
        higher = sound(four[voice]) - sound(four[voice + 1])
        if higher < 0 or higher > given[6 + voice]:
            return False
    heard = {name(note) for note in four}
    return all(one in heard or may_lack for one, may_lack in names.items())


def cost(given, bass, names, notes):
    above = [name(note) for note in notes]
    lacking = set(names) - set(above) - {name(bass)}
    return (given[12] if max(above.count(one) for one in above) > 1 else 0) + given[13] * len(lacking)


def bass_and_names(numbers):
    names = {(numbers[k], numbers[k + 1]): numbers[k + 2] == 1 for k in range(2, len(numbers), 3)}
    return (numbers[0], numbers[1]), names


def by_trying(given, numbers):
    bass, names = bass_and_names(numbers)
    notes = [(step, altered) for step in range(70) for altered in range(-2, 3) if (step % 7, altered) in names]
    reached = [[note for note in notes if given[2 * voice] <= sound(note) <= given[2 * voice + 1]]
               for voice in range(3)]
    found = [three for three in itertools.product(*reached) if is_setting(given, bass, names, three)]
    found.sort(key=lambda three: [(sound(note), note[0]) for note in three])
    return [[len(found)] + [number for note in three for number in note] + [cost(given, bass, names, three)]
            for three in found]


def four_sounds(numbers, flat):
    """What the six numbers of three notes, and the bass of the chord, sound like."""
    return [sound(flat[k:k + 2]) for k in (0, 2, 4)] + [sound(numbers[:2])]


def wrongs_between(given, here, there):
    found = []
    for one, other in itertools.combinations(range(4), 2):
        was, now = (here[one] - here[other]) % 12, (there[one] - there[other]) % 12
        if was == now and was in (0, 7) and here[one] != there[one] and here[other] != there[other]:
            found.append([1, one, other])
    for voice in range(3):
        if not here[voice] - given[9 + voice] <= there[voice] <= here[voice] + given[9 + voice]:
            found.append([2, voice, 9])
    for upper, lower in ((0, 1), (1, 2), (2, 3)):
        if there[lower] > here[upper]:
            found.append([3, lower, upper])
        if here[lower] > there[upper]:
            found.append([3, upper, lower])
    return found


def moving(given, here, there):
    return given[14] * sum(abs(here[voice] - there[voice]) for voice in range(3))


def ways_by_trying(given, chords):
    """All ways of whatever cost, in order, each with its cost and six numbers for each chord."""
    ways = [(0, (), [])]
    for i, numbers in enumerate(chords):
        longer = []
        for paid, places, flat in ways:
            for k, told in enumerate(by_trying(given, numbers)):
                price = told[7]
                if i > 0:
                    here, there = four_sounds(chords[i - 1], flat[-6:]), four_sounds(numbers, told[1:7])
                    if wrongs_between(given, here, there):
                        continue
                    price += moving(given, here, there)
                longer.append((paid + price, places + (k,), flat + told[1:7]))
        ways = longer
    return [[paid] + flat for paid, places, flat in sorted(ways)]


def numbers_by_cost(given, chords):
    """How many ways there are of each cost, adding up over the last setting alone."""
    ahead = {}
    for i, numbers in enumerate(chords):
        reached = {}
        for told in by_trying(given, numbers):
            there = tuple(four_sounds(numbers, told[1:7]))
            tally = reached.setdefault(there, {})
            for here, paid in ahead.items() if i > 0 else [(None, {0: 1})]:
                if i > 0 and wrongs_between(given, here, there):
                    continue
                price = told[7] + (moving(given, here, there) if i > 0 else 0)
                for before, number in paid.items():
                    tally[before + price] = tally.get(before + price, 0) + number
        ahead = reached
    total = {}
    for tally in ahead.values():
        for paid, number in tally.items():
            total[paid] = total.get(paid, 0) + number
    return total


def judged_by_trying(given, chords, flat):
    rows = []
    paid = 0
    for i, numbers in enumerate(chords):
        bass, names = bass_and_names(numbers)
        three = [tuple(flat[k:k + 2]) for k in range(6 * i, 6 * i + 6, 2)]
        if not is_setting(given, bass, names, three):
            rows.append([i, 4, 9, 9])
        paid += cost(given, bass, names, three)
        if i > 0:
            here, there = (four_sounds(chords[m], flat[6 * m:6 * m + 6]) for m in (i - 1, i))
            rows.extend([i] + row for row in wrongs_between(given, here, there))
            paid += moving(given, here, there)
    return [len(rows), -1 if rows else paid] + [number for row in rows for number in row]


def narrow_rules(source):
    """Rules under which a voice has few notes, so that all ways can be tried."""
    base = source.randrange(24, 72)
    given = []
    for above in (14, 7, 0):
        low = base + above + source.randrange(-3, 4)
        given.extend([low, low + source.choice((2, 6, 9, 12))])
    given.extend([source.choice((9, 12, 24, 60)), source.choice((9, 12, 24, 60)), source.choice((24, 60))])
    given.extend([source.choice((2, 5, 7, 12, 60)) for voice in range(3)])
    return given + [source.choice((0, 1, 3, 20)), source.choice((0, 4, 20)), source.choice((0, 1, 1, 2, 7, 20))]


def low_chord(source, given):
    """A chord that has some settings under narrow rules: low enough, and most of it may be left out."""
    step = 7 * (given[4] // 12 - source.choice((0, 1, 1, 1))) + source.randrange(7)
    numbers = [max(0, step), source.choice((-1, 0, 0, 0, 1))]
    altered = source.choice(((0,), (-1, 0, 1), (-2, 2)))
    names = [(step, alteration) for step in range(7) for alteration in altered]
    for one in source.sample(names, source.choice((1, 2, 3, 3, 4, 4))):
        numbers.extend([one[0], one[1], source.choice((0, 1, 1, 1, 1, 1))])
    return numbers


def some_rules(source):
    if source.randrange(4) == 0:
        return list(FIRST_RULES)
    given = []
    base = source.randrange(0, 80)
    for above in (24, 12, 0):
        low = min(119, max(0, base + above + source.randrange(-6, 7)))
        given.extend([low, min(119, low + source.choice((0, 5, 12, 19, 24)))])
    given.extend([source.choice((0, 7, 12, 24, 60)) for voice in range(3)])
    given.extend([source.randrange(61) for voice in range(3)])
    return given + [source.randrange(21) for price in range(3)]


def some_chord(source, given):
    octave = min(9, max(0, given[4] // 12 - source.randrange(3)))
    numbers = [7 * octave + source.randrange(7), source.choice((-2, -1, 0, 0, 0, 1, 2))]
    names = [(step, altered) for step in range(7) for altered in source.choice(((0,), (-1, 0, 1), (-2, 2)))]
    for one in source.sample(names, source.randrange(1, 5)):
        numbers.extend([one[0], one[1], source.randrange(2)])
    return numbers


class ByTrying(unittest.TestCase):
    def compare(self, given, numbers):
        expected = by_trying(given, numbers)
        before = [rules(given), chord(*numbers)]
        self.assertEqual(tell(*before, setting(0, len(expected))), [[0], [0, len(expected)], [-3]])
        self.assertEqual(all_settings(before, 0, len(expected)), expected)
        return len(expected)

    def test_many_chords(self):
        source = random.Random(20261118)
        with_settings = 0
        for trial in range(400):
            given = some_rules(source)
            numbers = some_chord(source, given)
            with self.subTest(rules=given, chord=numbers):
                with_settings += self.compare(given, numbers) > 0
        self.assertGreater(with_settings, 100)

    def test_first_rules(self):
        # Every name by itself above each bass, and with another that may lack: each end of each range is met.
        for bass in range(14, 42):
            for step in range(7):
                for altered in range(-2, 3):
                    numbers = [bass, 0, step, altered, 0, (step + 2) % 7, 0, 1]
                    expected = by_trying(FIRST_RULES, numbers)
                    k = len(expected) // 2
                    found = tell(chord(*numbers), setting(0, k))
                    with self.subTest(chord=numbers):
                        self.assertEqual(found, [[0, len(expected)], expected[k] if expected else [-3]])

    def test_first_rules_at_each_sound(self):
        # All the voices' notes from 48 to 79 come in single names, so no rule is off by a semitone.
        for step in range(7):
            for altered in range(-2, 3):
                for bass in range(14, 36):
                    numbers = [bass, 0, step, altered, 0]
                    with self.subTest(chord=numbers):
                        self.assertEqual(tell(chord(*numbers)), [[0, len(by_trying(FIRST_RULES, numbers))]])

    def test_as_many_settings_as_can_be(self):
        given = [48, 72, 48, 72, 48, 72, 60, 60, 60, 0, 0, 0, 20, 20, 20]
        self.assertGreater(self.compare(given, [28, 0, 0, 0, 1, 6, 1, 1, 1, -2, 1, 4, 0, 1]), 300)

    def test_rules_changed_between(self):
        source = random.Random(7)
        for trial in range(40):
            first = some_rules(source)
            second = some_rules(source)
            numbers = some_chord(source, second)
            expected = by_trying(second, numbers)
            found = tell(rules(first), chord(*numbers), drop(), chord(*numbers), rules(second),
                         setting(0, len(expected) // 2), chord(*numbers))
            with self.subTest(first=first, second=second, chord=numbers):
                self.assertEqual(found[1], found[3])
                self.assertEqual(found[5], expected[len(expected) // 2] if expected else [-3])
                self.assertEqual(found[6], [1, len(expected)])


class WaysByTrying(unittest.TestCase):
    def compare(self, source, given, chords):
        """How many ways there are, if what's told of them is what trying tells."""
        before = [rules(given)] + [chord(*numbers) for numbers in chords]
        ways = ways_by_trying(given, chords)
        cheap = [way for way in ways if way[0] < 120]
        costs = sorted({way[0] for way in cheap})
        exact = {paid: len([way for way in cheap if way[0] == paid]) for paid in costs}
        p = source.choice(costs) if costs and source.randrange(3) else source.randrange(120)
        n = source.randrange(len(cheap)) if cheap else 0
        asked = [counts(), count(p), nth(0), nth(n), nth(len(cheap) - 1 if cheap else 0), nth(len(cheap))]
        expected = [[len(costs)] + [number for paid in costs for number in (paid, exact[paid])],
                    [len([way for way in cheap if way[0] <= p]), exact.get(p, 0)],
                    cheap[0] if cheap else [-3], cheap[n] if cheap else [-3], cheap[-1] if cheap else [-3], [-3]]
        self.assertEqual(tell(*before, *asked)[len(before):], expected)
        for way in [ways[0], ways[n], ways[-1]] if ways else []:
            self.assertEqual(last(*before, judge(*way[1:])), [0, way[0]])
        self.assertEqual(exact, {paid: number for paid, number in numbers_by_cost(given, chords).items() if paid < 120})
        return len(ways)

    def test_many_small_pieces(self):
        source = random.Random(11)
        with_ways = 0
        for trial in range(600):
            given = narrow_rules(source)
            chords = [low_chord(source, given) for k in range(source.choice((1, 2, 2, 3)))]
            with self.subTest(rules=given, chords=chords):
                with_ways += self.compare(source, given, chords) > 1
        self.assertGreater(with_ways, 100)

    def test_every_way_of_some(self):
        source = random.Random(12)
        pieces = 0
        while pieces < 25:
            given = narrow_rules(source)
            chords = [low_chord(source, given) for k in range(3)]
            cheap = [way for way in ways_by_trying(given, chords) if way[0] < 120]
            if not 12 <= len(cheap) <= 120:
                continue
            pieces += 1
            before = [rules(given)] + [chord(*numbers) for numbers in chords]
            found = []
            for start in range(0, len(cheap), 6):
                asked = [nth(n) for n in range(start, min(start + 6, len(cheap)))]
                found.extend(tell(*before, *asked)[len(before):])
            with self.subTest(rules=given, chords=chords):
                self.assertEqual(found, cheap)

    def test_eight_chords(self):
        pieces = ((28, 0, 0, 0, 0, 2, 0, 0, 4, 0, 0), (24, 0, 3, 0, 0, 5, 0, 0, 0, 0, 0),
                  (25, 0, 4, 0, 0, 6, 0, 0, 1, 0, 1, 3, 0, 1), (26, 0, 5, 0, 0, 0, 0, 0, 2, 0, 0))
        chords = [pieces[k] for k in (0, 1, 2, 0, 3, 1, 2, 0)]
        for given in (FIRST_RULES, FIRST_RULES[:9] + [60, 60, 60, 5, 0, 2]):
            found = tell(rules(given), *[chord(*numbers) for numbers in chords], counts())[-1]
            exact = numbers_by_cost(given, chords)
            costs = sorted(paid for paid in exact if paid < 120)
            self.assertGreater(len(costs), 50)
            self.assertEqual(found, [len(costs)] + [number for paid in costs for number in (paid, exact[paid])])


class JudgedByTrying(unittest.TestCase):
    def test_many_notes(self):
        source = random.Random(13)
        kinds = {}
        for trial in range(3000):
            given = narrow_rules(source)
            chords = [low_chord(source, given) for k in range(source.randrange(1, 4))]
            flat = []
            for numbers in chords:
                settings = by_trying(given, numbers) if source.randrange(3) else []
                flat.extend(source.choice(settings)[1:7] if settings else some_notes(source, given))
            expected = judged_by_trying(given, chords, flat)
            with self.subTest(rules=given, chords=chords, notes=flat):
                found = last(rules(given), *[chord(*numbers) for numbers in chords], judge(*flat))
                self.assertEqual(found, expected)
            for k in range(2, len(expected), 4):
                kind = tuple(expected[k + 1:k + 4])
                kinds[kind] = kinds.get(kind, 0) + 1
        # Each thing that can be wrong was met: 6 parallels, 3 voices too far, 6 beyond, and no setting.
        self.assertEqual(len(kinds), 16)


def some_notes(source, given):
    """Three notes near the voices' ranges, now and then out of their order."""
    flat = []
    for voice in range(3):
        step = 7 * (given[2 * voice] // 12) + source.randrange(-4, 12)
        flat.extend([min(69, max(0, step)), source.choice((-1, 0, 0, 0, 1))])
    return flat


if __name__ == "__main__":
    unittest.main()
