"""rules: what it takes and refuses, and what it does to settings."""

import unittest

from tests.calling import (
    C_MAJOR, C_MAJOR_SETTINGS, FIRST_RULES, HUGE, chord, chord_of, count, counts, drop, judge, last, notes, rules,
    rules_but, setting, tell)

RANGE_STARTS = (0, 2, 4)
SEMITONE_PLACES = (6, 7, 8, 9, 10, 11)
PRICE_PLACES = (12, 13, 14)


def with_number(place, number):
    numbers = list(FIRST_RULES)
    numbers[place] = number
    return rules(numbers)


def with_range(place, low, high):
    numbers = list(FIRST_RULES)
    numbers[place] = low
    numbers[place + 1] = high
    return rules(numbers)


class Taken(unittest.TestCase):
    def test_first_rules_again(self):
        self.assertEqual(tell(rules(FIRST_RULES)), [[0]])

    def test_ranges_at_their_edges(self):
        for place in RANGE_STARTS:
            for low, high in ((0, 0), (0, 24), (119, 119), (95, 119), (50, 50), (50, 74)):
                with self.subTest(place=place, low=low, high=high):
                    self.assertEqual(last(with_range(place, low, high)), [0])

    def test_semitones_at_their_edges(self):
        for place in SEMITONE_PLACES:
            for number in (0, 21, 60):
                with self.subTest(place=place, number=number):
                    self.assertEqual(last(with_number(place, number)), [0])

    def test_prices_at_their_edges(self):
        for place in PRICE_PLACES:
            for number in (0, 20):
                with self.subTest(place=place, number=number):
                    self.assertEqual(last(with_number(place, number)), [0])

    def test_ranges_need_no_order_among_voices(self):
        self.assertEqual(last(rules([0, 24, 50, 60, 95, 119] + FIRST_RULES[6:])), [0])


class Refused(unittest.TestCase):
    def test_other_lengths(self):
        for length in [count for count in range(60) if count != 15]:
            with self.subTest(length=length):
                self.assertEqual(last(rules((FIRST_RULES * 4)[:length])), [-1])

    def test_ranges_beyond_their_edges(self):
        wrong = ((-1, 20), (-1, -1), (96, 120), (120, 120), (50, 49), (119, 0), (50, 75), (0, 25), (94, 119),
                 (0, 119), (-HUGE, HUGE), (HUGE, HUGE), (-HUGE, -HUGE), (HUGE, -HUGE), (0, HUGE), (-HUGE, 24))
        for place in RANGE_STARTS:
            for low, high in wrong:
                with self.subTest(place=place, low=low, high=high):
                    self.assertEqual(last(with_range(place, low, high)), [-1])

    def test_semitones_beyond_their_edges(self):
        for place in SEMITONE_PLACES:
            for number in (-1, 61, HUGE, -HUGE):
                with self.subTest(place=place, number=number):
                    self.assertEqual(last(with_number(place, number)), [-1])

    def test_prices_beyond_their_edges(self):
        for place in PRICE_PLACES:
            for number in (-1, 21, 60, HUGE, -HUGE):
                with self.subTest(place=place, number=number):
                    self.assertEqual(last(with_number(place, number)), [-1])

    def test_several_wrongs_are_one_refusal(self):
        self.assertEqual(last(rules([HUGE] * 15)), [-1])
        self.assertEqual(last(rules([-HUGE] * 59)), [-1])

    def test_nothing_is_changed(self):
        asked = [setting(0, k) for k in range(C_MAJOR_SETTINGS)]
        plain = tell(chord(*C_MAJOR), *asked)
        others = [48, 60, 48, 60, 48, 60, 5, 5, 5, 5, 5, 5, 9, 9]
        for wrong in (rules(others + [21]), rules(others), rules(others + [9, 9]), rules([])):
            with self.subTest(wrong=wrong):
                found = tell(chord(*C_MAJOR), wrong, *asked)
                self.assertEqual(found[1], [-1])
                self.assertEqual([found[0]] + found[2:], plain)

    def test_the_rules_ahead_stay(self):
        found = tell(rules_but(n12=7), rules_but(n12=21), chord(*C_MAJOR), setting(0, 2))
        self.assertEqual(found, [[0], [-1], [0, 23], [23, 37, 0, 32, 0, 30, 0, 7]])


class Followed(unittest.TestCase):
    def count(self, *changes):
        """How many settings the plain chord has behind these rules."""
        return last(*changes, chord(*C_MAJOR))[1]

    def test_first_rules_are_those_told(self):
        self.assertEqual(self.count(), 23)
        self.assertEqual(self.count(rules(FIRST_RULES)), 23)

    def test_each_range_holds(self):
        self.assertEqual(self.count(rules_but(n0=61)), 22)
        self.assertEqual(self.count(rules_but(n1=78)), 21)
        self.assertEqual(self.count(rules_but(n2=56)), 18)
        self.assertEqual(self.count(rules_but(n3=71)), 21)
        self.assertEqual(self.count(rules_but(n4=49)), 22)
        self.assertEqual(self.count(rules_but(n5=66)), 21)

    def test_each_distance_holds(self):
        self.assertEqual(self.count(rules_but(n6=11)), 20)
        self.assertEqual(self.count(rules_but(n7=11)), 21)
        self.assertEqual(self.count(rules_but(n8=18)), 21)
        self.assertEqual(self.count(rules_but(n8=19)), 23)

    def test_how_far_they_go_means_nothing_for_settings(self):
        self.assertEqual(self.count(rules_but(n9=0, n10=0, n11=0, n14=20)), 23)

    def test_first_rules_for_ways(self):
        calls = [chord(*C_MAJOR), chord_of("f3", "f a c"), chord_of("g3", "g b d f"), chord(*C_MAJOR)]
        told = last(*calls, counts())
        self.assertGreater(told[0], 30)
        self.assertEqual(last(rules(FIRST_RULES), *calls, counts()), told)

    def test_how_far_each_may_go_holds(self):
        # One voice goes by two semitones; the number of each voice is 1, then 2.
        for voice, text in enumerate(("d5 g4 e4", "c5 a4 e4", "c5 g4 f#4")):
            for changed in (0, 1, 2):
                for leap in (1, 2):
                    numbers = list(FIRST_RULES)
                    numbers[9 + changed] = leap
                    found = last(rules(numbers), chord(*C_MAJOR), chord(*C_MAJOR), judge(*notes("c5 g4 e4 " + text)))
                    with self.subTest(voice=voice, changed=changed, leap=leap):
                        told = [found[k:k + 4] for k in range(2, len(found), 4) if found[k + 1] == 2]
                        self.assertEqual(told, [[1, 2, voice, 9]] if changed == voice and leap == 1 else [])

    def test_the_price_of_a_move_holds(self):
        calls = [chord(*C_MAJOR), chord_of("c4", "c d g e"), count(119), judge(*notes("c5 g4 e4 d5 g4 e4"))]
        for price in (0, 1, 7, 20):
            with self.subTest(price=price):
                self.assertEqual(last(rules_but(n14=price), *calls), [0, 2 * price])

    def test_a_chord_that_is_there_follows_new_rules(self):
        found = tell(chord(*C_MAJOR), setting(0, 0), rules_but(n0=61), setting(0, 0), setting(0, 21), setting(0, 22),
                     rules(FIRST_RULES), setting(0, 22))
        self.assertEqual(found, [
            [0, 23], [23, 35, 0, 32, 0, 30, 0, 0],
            [0], [22, 37, 0, 32, 0, 28, 0, 0], [22, 46, 0, 42, 0, 37, 0, 0], [-3],
            [0], [23, 46, 0, 42, 0, 37, 0, 0]])

    def test_new_prices(self):
        lacking = [28, 0, 0, 0, 0, 2, 0, 1, 4, 0, 0]
        found = tell(rules_but(n0=67, n1=67, n2=67, n3=67, n4=67, n5=67), chord(*lacking), setting(0, 0),
                     rules_but(n0=67, n1=67, n2=67, n3=67, n4=67, n5=67, n12=20, n13=0), setting(0, 0),
                     rules_but(n0=67, n1=67, n2=67, n3=67, n4=67, n5=67, n12=0, n13=20), setting(0, 0))
        self.assertEqual([answer[-1] for answer in found if len(answer) == 8], [7, 20, 20])

    def test_rules_touch_no_chord(self):
        self.assertEqual(tell(chord(*C_MAJOR), chord(*C_MAJOR), rules_but(n0=61), drop(), drop(), drop()),
                         [[0, 23], [1, 23], [0], [1], [0], [-3]])


if __name__ == "__main__":
    unittest.main()
