"""chord and drop: what they take and refuse, and what they answer."""

import unittest

from tests.calling import C_MAJOR, HUGE, chord, drop, last, rules, rules_but, setting, tell

NAME = [0, 0, 0]
NAMES = [0, 0, 0, 2, 0, 0, 4, 0, 0, 6, -1, 1]
FULL = [chord(*C_MAJOR)] * 8


class Taken(unittest.TestCase):
    def test_numbers_rise_from_0(self):
        found = tell(*FULL)
        self.assertEqual(found, [[number, 23] for number in range(8)])

    def test_bass_at_its_edges(self):
        for step in (0, 35, 69):
            for alteration in (-2, -1, 0, 1, 2):
                with self.subTest(step=step, alteration=alteration):
                    self.assertEqual(len(last(chord(step, alteration, *NAME))), 2)

    def test_names_at_their_edges(self):
        for name in ([0, -2, 0], [6, 2, 1], [3, 0, 1], [0, 2, 0], [6, -2, 1]):
            with self.subTest(name=name):
                self.assertEqual(last(chord(28, 0, *name))[0], 0)

    def test_one_to_four_names(self):
        for count in (1, 2, 3, 4):
            with self.subTest(count=count):
                self.assertEqual(last(chord(28, 0, *NAMES[:3 * count]))[0], 0)

    def test_same_step_otherwise_altered_is_another_name(self):
        self.assertEqual(last(chord(28, 0, 0, -2, 1, 0, -1, 1, 0, 1, 1, 0, 2, 1))[0], 0)

    def test_a_chord_with_no_setting(self):
        self.assertEqual(tell(chord(69, 0, *NAME), setting(0, 0)), [[0, 0], [-3]])

    def test_four_names_with_bass_none_of_them(self):
        self.assertEqual(last(chord(29, 0, 0, 0, 0, 2, 0, 0, 4, 0, 0, 6, -1, 0)), [0, 0])

    def test_chords_are_kept_apart(self):
        found = tell(chord(*C_MAJOR), chord(25, 0, 4, 0, 0, 6, 0, 0, 1, 0, 0), chord(28, 0, *NAME),
                     setting(0, 0), setting(1, 0), setting(2, 0))
        self.assertEqual(found, [
            [0, 23], [1, 19], [2, 5],
            [23, 35, 0, 32, 0, 30, 0, 0], [19, 36, 0, 34, 0, 29, 0, 3], [5, 35, 0, 35, 0, 28, 0, 3]])


class RefusedForTheBass(unittest.TestCase):
    def test_none_or_one_number(self):
        self.assertEqual(last(chord()), [-1])
        self.assertEqual(last(chord(28)), [-1])
        self.assertEqual(last(chord(HUGE)), [-1])

    def test_beyond_its_edges(self):
        for step, alteration in ((-1, 0), (70, 0), (0, -3), (69, 3), (HUGE, 0), (-HUGE, 0), (28, HUGE), (28, -HUGE)):
            with self.subTest(step=step, alteration=alteration):
                self.assertEqual(last(chord(step, alteration, *NAME)), [-1])

    def test_ahead_of_wrong_names_and_of_too_many_chords(self):
        self.assertEqual(last(chord(70, 0)), [-1])
        self.assertEqual(last(chord(70, 0, 7, 0, 0)), [-1])
        self.assertEqual(last(chord(28, 3, 0, 0)), [-1])
        self.assertEqual(last(*FULL, chord(70, 0, 7, 0, 0)), [-1])
        self.assertEqual(last(*FULL, chord(70, 0, *NAME)), [-1])
        self.assertEqual(last(*FULL, chord()), [-1])


class RefusedForTheNames(unittest.TestCase):
    def test_no_names(self):
        self.assertEqual(last(chord(28, 0)), [-2])

    def test_five_names(self):
        self.assertEqual(last(chord(28, 0, *NAMES, 1, 0, 1)), [-2])

    def test_numbers_left_over(self):
        for names in ([0], [0, 0], NAME + [2], NAME + [2, 0], NAMES[:9] + [6, -1], NAMES + [1], NAMES + [1, 0]):
            with self.subTest(names=names):
                self.assertEqual(last(chord(28, 0, *names)), [-2])

    def test_every_length_that_fits_no_names(self):
        for length in [count for count in range(2, 60) if count not in (5, 8, 11, 14)]:
            numbers = [28, 0]
            for k in range(19):
                numbers.extend([k % 7, k // 7, 1])
            with self.subTest(length=length):
                self.assertEqual(last(chord(*numbers[:length])), [-2])

    def test_one_twice(self):
        self.assertEqual(last(chord(28, 0, 0, 0, 0, 0, 0, 0)), [-2])
        self.assertEqual(last(chord(28, 0, 0, 0, 0, 0, 0, 1)), [-2])
        self.assertEqual(last(chord(28, 0, 0, 1, 1, 2, 0, 0, 4, 0, 0, 0, 1, 0)), [-2])

    def test_numbers_beyond_their_ranges(self):
        for place, numbers in ((0, (-1, 7, 69, HUGE, -HUGE)), (1, (-3, 3, HUGE, -HUGE)), (2, (-1, 2, HUGE, -HUGE))):
            for start in (0, 3, 6, 9):
                for number in numbers:
                    names = list(NAMES)
                    names[start + place] = number
                    with self.subTest(names=names):
                        self.assertEqual(last(chord(28, 0, *names)), [-2])

    def test_ahead_of_too_many_chords(self):
        self.assertEqual(last(*FULL, chord(28, 0)), [-2])
        self.assertEqual(last(*FULL, chord(28, 0, 7, 0, 0)), [-2])
        self.assertEqual(last(*FULL, chord(28, 0, 0, 0)), [-2])


class RefusedForTheCount(unittest.TestCase):
    def test_one_more_than_eight(self):
        found = tell(*FULL, chord(*C_MAJOR), chord(28, 0, *NAME))
        self.assertEqual(found[7:], [[7, 23], [-5], [-5]])

    def test_room_again_behind_drop(self):
        found = tell(*FULL, chord(*C_MAJOR), drop(), chord(28, 0, *NAME), chord(*C_MAJOR), setting(7, 0))
        self.assertEqual(found[8:], [[-5], [7], [7, 5], [-5], [5, 35, 0, 35, 0, 28, 0, 3]])


class NothingChanged(unittest.TestCase):
    def test_behind_a_refused_chord(self):
        for wrong in (chord(), chord(70, 0, *NAME), chord(28, 0), chord(28, 0, 0, 0, 0, 0, 0, 1),
                      chord(28, 0, *NAME, 7, 0, 0), chord(28, 0, *NAME, 1)):
            with self.subTest(wrong=wrong):
                found = tell(chord(*C_MAJOR), wrong, setting(1, 0), setting(0, 0), chord(28, 0, *NAME), drop(), drop())
                self.assertLess(found[1][0], 0)
                self.assertEqual(found[2:], [[-1], [23, 35, 0, 32, 0, 30, 0, 0], [1, 5], [1], [0]])

    def test_behind_the_ninth(self):
        found = tell(*FULL, chord(28, 0, *NAME), setting(7, 0), setting(8, 0), drop())
        self.assertEqual(found[8:], [[-5], [23, 35, 0, 32, 0, 30, 0, 0], [-1], [7]])


class Drop(unittest.TestCase):
    def test_none_there(self):
        self.assertEqual(tell(drop()), [[-3]])
        self.assertEqual(tell(drop(), drop(), chord(*C_MAJOR), drop(), drop()), [[-3], [-3], [0, 23], [0], [-3]])

    def test_how_many_are_left(self):
        found = tell(*FULL, *[drop()] * 9)
        self.assertEqual(found[8:], [[count] for count in (7, 6, 5, 4, 3, 2, 1, 0, -3)])

    def test_the_last_one_goes(self):
        found = tell(chord(*C_MAJOR), chord(28, 0, *NAME), drop(), setting(0, 0), setting(1, 0))
        self.assertEqual(found, [[0, 23], [1, 5], [1], [23, 35, 0, 32, 0, 30, 0, 0], [-1]])

    def test_chord_anew(self):
        found = tell(chord(*C_MAJOR), drop(), chord(28, 0, *NAME), setting(0, 0), chord(*C_MAJOR))
        self.assertEqual(found, [[0, 23], [0], [0, 5], [5, 35, 0, 35, 0, 28, 0, 3], [1, 23]])

    def test_rules_stay(self):
        found = tell(rules_but(n0=61), chord(*C_MAJOR), drop(), chord(*C_MAJOR), rules([]), chord(*C_MAJOR))
        self.assertEqual(found, [[0], [0, 22], [0], [0, 22], [-1], [1, 22]])


if __name__ == "__main__":
    unittest.main()
