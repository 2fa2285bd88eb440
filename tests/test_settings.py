"""settings: which there are, in which order, and what they cost."""

import unittest

from tests.calling import (
    C_MAJOR, C_MAJOR_BY_HAND, C_MAJOR_SETTINGS, FIRST_RULES, HUGE, all_settings, chord, last, rules, setting, tell)


def with_ranges(*ranges):
    return rules(list(ranges) + FIRST_RULES[6:])


def every(before, numbers):
    """All settings of this chord behind the calls before: their notes and costs, a list each."""
    count = last(*before, chord(*numbers))[1]
    found = all_settings(list(before) + [chord(*numbers)], 0, count)
    for answer in found:
        if answer[0] != count:
            raise AssertionError("chord told %d settings, settings %d" % (count, answer[0]))
    return [answer[1:] for answer in found]


class InOrder(unittest.TestCase):
    def test_the_whole_plain_chord(self):
        self.assertEqual(every([], C_MAJOR),
                         [[row[0], 0, row[1], 0, row[2], 0, row[3]] for row in C_MAJOR_BY_HAND])

    def test_first_middle_last_and_behind(self):
        found = tell(chord(*C_MAJOR), setting(0, 0), setting(0, 11), setting(0, 22), setting(0, 23))
        self.assertEqual(found[1:], [
            [23, 35, 0, 32, 0, 30, 0, 0], [23, 39, 0, 37, 0, 37, 0, 3], [23, 46, 0, 42, 0, 37, 0, 0], [-3]])

    def test_names_in_another_order_make_no_difference(self):
        self.assertEqual(every([], [28, 0, 4, 0, 0, 0, 0, 0, 2, 0, 0]), every([], C_MAJOR))

    def test_same_sound_by_step(self):
        # B sharp, C and D double flat of the same sound, 60, at the steps 34, 35 and 36.
        names = [0, 0, 1, 1, -2, 1, 6, 1, 1]
        notes = ([34, 1], [35, 0], [36, -2])
        expected = []
        for soprano in notes:
            for alto in notes:
                for tenor in notes:
                    kinds = len({tuple(note) for note in (soprano, alto, tenor)})
                    # The bass is a fourth name of its own, so what's lacking above is lacking.
                    cost = 4 * (3 - kinds) + (3 if kinds < 3 else 0)
                    expected.append(soprano + alto + tenor + [cost])
        self.assertEqual(every([with_ranges(60, 60, 60, 60, 60, 60)], [31, 0] + names), expected)

    def test_sound_goes_ahead_of_step(self):
        # B double sharp, step 34, sounds 61; C flat, step 35, sounds 59.
        found = every([with_ranges(59, 61, 59, 59, 59, 59)], [28, 0, 6, 2, 1, 0, -1, 1])
        self.assertEqual(found, [[35, -1, 35, -1, 35, -1, 7], [34, 2, 35, -1, 35, -1, 3]])

    def test_same_sound_in_the_alto_and_the_tenor(self):
        # C sharp and D flat: at 61 each voice has both.
        found = every([with_ranges(61, 61, 61, 61, 61, 61)], [28, 0, 1, -1, 0, 0, 1, 0])
        self.assertEqual([answer[:6] for answer in found], [
            [35, 1, 35, 1, 36, -1], [35, 1, 36, -1, 35, 1], [35, 1, 36, -1, 36, -1],
            [36, -1, 35, 1, 35, 1], [36, -1, 35, 1, 36, -1], [36, -1, 36, -1, 35, 1]])


class Which(unittest.TestCase):
    def test_lowest_step(self):
        # C at 0, the bass too; nothing else within the ranges.
        self.assertEqual(every([with_ranges(0, 11, 0, 11, 0, 11)], [0, 0, 0, 0, 0]), [[0, 0, 0, 0, 0, 0, 3]])

    def test_highest_step(self):
        self.assertEqual(every([with_ranges(95, 119, 95, 119, 95, 119)], [69, 0, 6, 0, 0]), [[69, 0, 69, 0, 69, 0, 3]])

    def test_no_step_above_the_highest(self):
        # C double flat: 106 is step 63; 118 would be step 70, which is none.
        found = every([with_ranges(106, 119, 106, 119, 106, 119)], [60, 0, 0, -2, 0])
        self.assertEqual(found, [[63, -2, 63, -2, 63, -2, 3]])

    def test_below_the_lowest_sound(self):
        # C double flat: step 0 sounds -2, below every range; as a bass it's a note all the same.
        found = every([with_ranges(0, 12, 0, 12, 0, 12)], [0, -2, 0, -2, 0])
        self.assertEqual(found, [[7, -2, 7, -2, 7, -2, 3]])

    def test_above_the_highest_sound(self):
        # B double sharp: step 69 sounds 121, above every range; step 62 sounds 109.
        found = every([with_ranges(105, 119, 105, 119, 105, 119)], [62, 0, 6, 2, 0])
        self.assertEqual(found, [[62, 2, 62, 2, 62, 2, 3]])

    def test_every_step_sounds_as_told(self):
        # One voice's range is one sound wide each time: which step of C to B fits?
        for step, sound in enumerate((0, 2, 4, 5, 7, 9, 11)):
            for alteration in (-2, -1, 0, 1, 2):
                at = 60 + sound + alteration
                with self.subTest(step=step, alteration=alteration):
                    found = every([with_ranges(at, at, at, at, at, at)], [32, 0, step, alteration, 0])
                    self.assertEqual(found, [[35 + step, alteration] * 3 + [3]])

    def test_each_range_with_both_its_ends(self):
        for voice in (0, 1, 2):
            for low, high, expected in ((59, 60, 1), (60, 61, 1), (60, 60, 1), (61, 62, 0), (58, 59, 0)):
                ranges = [60, 60, 60, 60, 60, 60]
                ranges[2 * voice] = low
                ranges[2 * voice + 1] = high
                with self.subTest(voice=voice, low=low, high=high):
                    self.assertEqual(len(every([with_ranges(*ranges)], [35, 0, 0, 0, 0])), expected)

    def one_setting(self, sounds, bass, apart):
        """How many settings of one name there are with each voice at one C of its own."""
        numbers = [sound for sound in sounds for again in (1, 2)] + list(apart) + FIRST_RULES[9:]
        return last(rules(numbers), chord(bass, 0, 0, 0, 0))[1]

    def test_how_far_apart(self):
        self.assertEqual(self.one_setting((72, 60, 48), 28, (12, 12, 0)), 1)
        self.assertEqual(self.one_setting((72, 60, 48), 28, (11, 12, 0)), 0)
        self.assertEqual(self.one_setting((72, 60, 48), 28, (12, 11, 0)), 0)
        self.assertEqual(self.one_setting((60, 60, 60), 21, (0, 0, 24)), 1)
        self.assertEqual(self.one_setting((60, 60, 60), 21, (0, 0, 23)), 0)
        self.assertEqual(self.one_setting((108, 60, 0), 0, (60, 60, 0)), 1)
        self.assertEqual(self.one_setting((108, 36, 0), 0, (60, 60, 0)), 0)
        self.assertEqual(self.one_setting((60, 60, 60), 0, (0, 0, 60)), 1)

    def test_none_lower_than_the_next(self):
        self.assertEqual(self.one_setting((48, 60, 48), 28, (60, 60, 60)), 0)
        self.assertEqual(self.one_setting((60, 48, 60), 28, (60, 60, 60)), 0)
        self.assertEqual(self.one_setting((60, 60, 48), 35, (60, 60, 60)), 0)
        self.assertEqual(self.one_setting((60, 60, 60), 35, (0, 0, 0)), 1)

    def test_lower_is_by_sound_and_not_by_step(self):
        # B double sharp, step 34, sounds 61: above C, step 35, which sounds 60.
        found = every([with_ranges(61, 61, 60, 60, 60, 60)], [28, 0, 6, 2, 0, 0, 0, 0])
        self.assertEqual(found, [[34, 2, 35, 0, 35, 0, 3]])
        self.assertEqual(every([with_ranges(60, 60, 61, 61, 60, 60)], [28, 0, 6, 2, 0, 0, 0, 0]), [])

    def test_notes_of_the_names_alone(self):
        # The bass is a D: it's none of the names, so no voice has it.
        found = every([with_ranges(60, 62, 60, 62, 60, 62)], [29, 0, 0, 0, 0])
        self.assertEqual(found, [[35, 0, 35, 0, 35, 0, 3]])

    def test_a_name_of_the_bass_is_there(self):
        # C and E at 60 and 64; the bass is a C, an E, or a D.
        ranges = with_ranges(64, 64, 64, 64, 64, 64)
        self.assertEqual(every([ranges], [28, 0, 0, 0, 0, 2, 0, 0]), [[37, 0, 37, 0, 37, 0, 3]])
        self.assertEqual(every([ranges], [30, 0, 0, 0, 0, 2, 0, 0]), [])
        self.assertEqual(every([ranges], [29, 0, 0, 0, 0, 2, 0, 0]), [])

    def test_a_bass_of_the_same_sound_has_another_name(self):
        # B sharp in the bass sounds like C, but is none.
        ranges = with_ranges(64, 64, 64, 64, 64, 64)
        self.assertEqual(every([ranges], [27, 1, 0, 0, 0, 2, 0, 0]), [])
        self.assertEqual(every([ranges], [28, 1, 0, 0, 0, 2, 0, 0]), [])

    def test_what_may_be_left_out(self):
        ranges = with_ranges(64, 64, 64, 64, 64, 64)
        self.assertEqual(every([ranges], [30, 0, 0, 0, 1, 2, 0, 0]), [[37, 0, 37, 0, 37, 0, 7]])
        self.assertEqual(every([ranges], [30, 0, 0, 0, 0, 2, 0, 1]), [])
        self.assertEqual(every([ranges], [30, 0, 0, 0, 1, 2, 0, 0, 4, 0, 0]), [])
        self.assertEqual(every([ranges], [30, 0, 0, 0, 1, 2, 0, 0, 4, 0, 1]), [[37, 0, 37, 0, 37, 0, 11]])

    def test_four_names_all_there(self):
        # C, E, G and B flat: C in the bass, the others each once.
        found = every([], [28, 0, 0, 0, 0, 2, 0, 0, 4, 0, 0, 6, -1, 0])
        self.assertTrue(found)
        for answer in found:
            names = sorted([(answer[k] % 7, answer[k + 1]) for k in (0, 2, 4)])
            self.assertEqual(names, [(2, 0), (4, 0), (6, -1)])
            self.assertEqual(answer[6], 0)


class Costs(unittest.TestCase):
    def cost(self, sounds, bass, names, twice, left):
        """What the one setting with these three sounds costs."""
        numbers = [sound for sound in sounds for again in (1, 2)] + [60, 60, 60, 0, 0, 0, twice, left, 20]
        found = tell(rules(numbers), chord(*bass, *names), setting(0, 0))
        self.assertEqual(found[2][0], 1)
        return found[2][-1]

    def test_neither(self):
        self.assertEqual(self.cost((67, 64, 60), (28, 0), (0, 0, 1, 2, 0, 1, 4, 0, 1), 7, 11), 0)

    def test_twice(self):
        for sounds in ((72, 64, 60), (72, 60, 52), (64, 60, 48), (64, 52, 48), (64, 60, 52), (60, 52, 52)):
            with self.subTest(sounds=sounds):
                self.assertEqual(self.cost(sounds, (28, 0), (0, 0, 0, 2, 0, 0), 7, 11), 7)

    def test_three_times_costs_no_more_than_twice(self):
        self.assertEqual(self.cost((72, 60, 48), (28, 0), (0, 0, 0), 7, 11), 7)

    def test_the_bass_counts_for_no_twice(self):
        self.assertEqual(self.cost((67, 64, 60), (28, 0), (0, 0, 0, 2, 0, 0, 4, 0, 0), 7, 11), 0)

    def test_the_same_sound_is_not_the_same_name(self):
        # F sharp and G flat at 66.
        self.assertEqual(self.cost((67, 66, 60), (28, 0), (4, 0, 0, 3, 1, 0, 0, 0, 0), 7, 11), 0)
        numbers = [66, 66, 66, 66, 60, 60, 60, 60, 60, 0, 0, 0, 7, 11, 0]
        found = tell(rules(numbers), chord(28, 0, 4, -1, 0, 3, 1, 0, 0, 0, 0), setting(0, 0), setting(0, 1))
        self.assertEqual(found[2:], [[2, 38, 1, 39, -1, 35, 0, 0], [2, 39, -1, 38, 1, 35, 0, 0]])

    def test_left_for_each_that_nobody_has(self):
        self.assertEqual(self.cost((67, 64, 60), (28, 0), (0, 0, 0, 2, 0, 0, 4, 0, 0, 6, -1, 1), 7, 11), 11)
        self.assertEqual(self.cost((60, 60, 60), (28, 0), (0, 0, 0, 2, 0, 1), 7, 11), 7 + 11)
        self.assertEqual(self.cost((60, 60, 60), (28, 0), (0, 0, 0, 2, 0, 1, 4, 0, 1), 7, 11), 7 + 22)
        self.assertEqual(self.cost((60, 60, 60), (28, 0), (0, 0, 0, 2, 0, 1, 4, 0, 1, 6, 0, 1), 7, 11), 7 + 33)

    def test_the_bass_counts_for_left(self):
        # E is lacking above: the bass is an E, an F, an E flat.
        self.assertEqual(self.cost((60, 60, 60), (30, 0), (0, 0, 0, 2, 0, 1), 7, 11), 7)
        self.assertEqual(self.cost((60, 60, 60), (31, 0), (0, 0, 0, 2, 0, 1), 7, 11), 7 + 11)
        self.assertEqual(self.cost((60, 60, 60), (30, -1), (0, 0, 0, 2, 0, 1), 7, 11), 7 + 11)

    def test_prices_at_their_edges(self):
        names = (0, 0, 0, 2, 0, 1, 4, 0, 1, 6, 0, 1)
        self.assertEqual(self.cost((60, 60, 60), (28, 0), names, 0, 0), 0)
        self.assertEqual(self.cost((60, 60, 60), (28, 0), names, 20, 20), 80)
        self.assertEqual(self.cost((60, 60, 60), (28, 0), names, 20, 0), 20)
        self.assertEqual(self.cost((60, 60, 60), (28, 0), names, 0, 20), 60)


class Refused(unittest.TestCase):
    def test_no_such_chord(self):
        for i in (0, 1, -1, 8, HUGE, -HUGE):
            with self.subTest(i=i):
                self.assertEqual(last(setting(i, 0)), [-1])
        for i in (1, -1, 2, 8, HUGE, -HUGE):
            with self.subTest(i=i):
                self.assertEqual(last(chord(*C_MAJOR), setting(i, 0)), [-1])
        full = [chord(*C_MAJOR)] * 8
        self.assertEqual(tell(*full, setting(7, 0), setting(8, 0), setting(-1, 0), setting(-8, 0))[8:],
                         [[23, 35, 0, 32, 0, 30, 0, 0], [-1], [-1], [-1]])

    def test_k_below_0(self):
        for k in (-1, -C_MAJOR_SETTINGS, -HUGE):
            with self.subTest(k=k):
                self.assertEqual(last(chord(*C_MAJOR), setting(0, k)), [-1])

    def test_no_such_setting(self):
        for k in (C_MAJOR_SETTINGS, C_MAJOR_SETTINGS + 1, HUGE):
            with self.subTest(k=k):
                self.assertEqual(last(chord(*C_MAJOR), setting(0, k)), [-3])

    def test_the_first_of_two(self):
        self.assertEqual(last(chord(*C_MAJOR), setting(1, C_MAJOR_SETTINGS)), [-1])
        self.assertEqual(last(chord(*C_MAJOR), setting(HUGE, HUGE)), [-1])
        self.assertEqual(last(chord(*C_MAJOR), setting(-HUGE, -HUGE)), [-1])
        self.assertEqual(last(chord(69, 0, 0, 0, 0), setting(0, -1)), [-1])
        self.assertEqual(last(chord(69, 0, 0, 0, 0), setting(0, 0)), [-3])

    def test_nothing_is_changed(self):
        found = tell(chord(*C_MAJOR), setting(1, 0), setting(0, -1), setting(0, 23), setting(0, 22), chord(*C_MAJOR))
        self.assertEqual(found, [[0, 23], [-1], [-1], [-3], [23, 46, 0, 42, 0, 37, 0, 0], [1, 23]])


if __name__ == "__main__":
    unittest.main()
