"""count, counts and nth: how many ways there are of each cost, and which, in their order."""

import unittest

from tests.calling import (
    C_MAJOR, C_MAJOR_BY_HAND, FIRST_RULES, HUGE, chord, chord_of, count, counts, drop, judge, last, notes, nth, rules, rules_but,
    setting, tell)

# Few notes for each voice: of the tonic one setting, of the dominant four.
NARROW = [71, 74, 64, 67, 55, 59, 24, 24, 24, 12, 12, 12, 3, 4, 1]
FREE = NARROW[:12] + [0, 0, 0]
TONIC = chord_of("c3", "c e g", 0)
DOMINANT = chord_of("g3", "g b d")
TONIC_NOTES = notes("c6 e5 g4")
DOMINANT_NOTES = [notes(text) for text in ("b5 g5 g4", "b5 g5 b4", "d6 g5 g4", "d6 g5 b4")]
# The alto and the tenor are a C each, and the soprano has what's between it and the C above.
ONE_MOVES = [61, 71, 60, 60, 60, 60, 60, 60, 60, 12, 0, 0]
# As many settings as there can be with different sounds: 729 of each chord.
MANY = [72, 96, 48, 72, 24, 48, 60, 60, 60, 60, 60, 60]


def all_ways(before, how_many):
    """Ways 0 to how_many - 1 behind the calls before, as nth answers them."""
    found = []
    for start in range(0, how_many, 6):
        asked = [nth(n) for n in range(start, min(start + 6, how_many))]
        found.extend(tell(*before, *asked)[len(before):])
    return found


class OneChord(unittest.TestCase):
    def test_counts(self):
        self.assertEqual(last(chord(*C_MAJOR), counts()), [2, 0, 10, 3, 13])

    def test_count(self):
        for p, expected in ((0, [10, 10]), (1, [10, 0]), (2, [10, 0]), (3, [23, 13]), (4, [23, 0]), (119, [23, 0])):
            with self.subTest(p=p):
                self.assertEqual(last(chord(*C_MAJOR), count(p)), expected)

    def test_every_way_in_order(self):
        rows = [row for row in C_MAJOR_BY_HAND if row[3] == 0] + [row for row in C_MAJOR_BY_HAND if row[3] == 3]
        expected = [[cost, soprano, 0, alto, 0, tenor, 0] for soprano, alto, tenor, cost in rows]
        self.assertEqual(all_ways([chord(*C_MAJOR)], 23), expected)

    def test_the_last_and_the_one_behind(self):
        self.assertEqual(tell(chord(*C_MAJOR), nth(22), nth(23), nth(24), nth(HUGE))[1:],
                         [[3, 46, 0, 39, 0, 37, 0], [-3], [-3], [-3]])


class SeveralChords(unittest.TestCase):
    """Worked out by hand; what the settings cost, and by how much each voice moves, is told beside each way."""

    def test_two(self):
        found = tell(rules(NARROW), TONIC, DOMINANT, counts(), count(9), count(10), count(12), count(119))
        self.assertEqual(found[1:3], [[0, 1], [1, 4]])
        self.assertEqual(found[3:], [[4, 9, 1, 11, 1, 12, 1, 15, 1], [1, 1], [1, 0], [3, 1], [4, 0]])

    def test_two_in_order(self):
        self.assertEqual(all_ways([rules(NARROW), TONIC, DOMINANT], 5), [
            [9] + TONIC_NOTES + DOMINANT_NOTES[3],    # 2 + 3 + 4
            [11] + TONIC_NOTES + DOMINANT_NOTES[0],   # 7, and 1 + 3 + 0
            [12] + TONIC_NOTES + DOMINANT_NOTES[2],   # 7, and 2 + 3 + 0
            [15] + TONIC_NOTES + DOMINANT_NOTES[1],   # 7, and 1 + 3 + 4
            [-3]])

    def test_three_in_order(self):
        before = [rules(NARROW), TONIC, DOMINANT, TONIC]
        self.assertEqual(last(*before, counts()), [4, 15, 1, 17, 1, 18, 1, 23, 1])
        self.assertEqual(all_ways(before, 5), [
            [15] + TONIC_NOTES + DOMINANT_NOTES[0] + TONIC_NOTES,
            [17] + TONIC_NOTES + DOMINANT_NOTES[2] + TONIC_NOTES,
            [18] + TONIC_NOTES + DOMINANT_NOTES[3] + TONIC_NOTES,
            [23] + TONIC_NOTES + DOMINANT_NOTES[1] + TONIC_NOTES,
            [-3]])

    def test_the_same_cost_by_the_first_setting_then_by_the_next(self):
        before = [rules(FREE), DOMINANT, TONIC, DOMINANT]
        expected = [[0] + first + TONIC_NOTES + third for first in DOMINANT_NOTES for third in DOMINANT_NOTES]
        self.assertEqual(last(*before, counts()), [1, 0, 16])
        self.assertEqual(all_ways(before, 17), expected + [[-3]])

    def test_the_cost_goes_ahead_of_the_order(self):
        before = [rules(NARROW), DOMINANT, TONIC, DOMINANT]
        costs = (11, 15, 12, 9)
        expected = sorted([costs[k] + costs[m], k, m] for k in range(4) for m in range(4))
        self.assertEqual(all_ways(before, 16), [
            [cost] + DOMINANT_NOTES[k] + TONIC_NOTES + DOMINANT_NOTES[m] for cost, k, m in expected])

    def test_the_same_sounds_under_other_names(self):
        # C sharp and D flat sound alike: settings of their own, which cost otherwise.
        given = [61, 61, 60, 60, 60, 60, 60, 60, 60, 0, 0, 0, 0, 1, 0]
        before = [rules(given), chord_of("c3", "c c# db"), chord_of("c3", "c db c#")]
        sharp, flat = notes("c#5 c5 c5"), notes("db5 c5 c5")
        self.assertEqual(last(*before, counts()), [1, 2, 4])
        self.assertEqual(all_ways(before, 5), [
            [2] + sharp + sharp, [2] + sharp + flat, [2] + flat + sharp, [2] + flat + flat, [-3]])

    def test_same_sounds_of_different_cost(self):
        # With C sharp in the bass, D flat above lets nothing lack.
        given = [61, 61, 60, 60, 60, 60, 60, 60, 60, 0, 0, 0, 0, 5, 0]
        before = [rules(given), chord_of("c#3", "c c# db"), chord_of("c#3", "c c# db")]
        sharp, flat = notes("c#5 c5 c5"), notes("db5 c5 c5")
        self.assertEqual(last(*before, counts()), [3, 0, 1, 5, 2, 10, 1])
        self.assertEqual(all_ways(before, 4), [
            [0] + flat + flat, [5] + sharp + flat, [5] + flat + sharp, [10] + sharp + sharp])

    def test_rules_changed_behind_the_chords(self):
        found = tell(rules(NARROW), TONIC, DOMINANT, counts(), rules(FREE), counts(), nth(0),
                     rules(NARROW[:9] + [1, 12, 12, 0, 0, 20]), counts(), nth(0), rules(NARROW), counts())
        self.assertEqual(found[3], [4, 9, 1, 11, 1, 12, 1, 15, 1])
        self.assertEqual(found[5:7], [[1, 0, 4], [0] + TONIC_NOTES + DOMINANT_NOTES[0]])
        self.assertEqual(found[8:10], [[1, 80, 1], [80] + TONIC_NOTES + DOMINANT_NOTES[0]])
        self.assertEqual(found[11], found[3])

    def test_chords_that_come_and_go(self):
        found = tell(rules(NARROW), TONIC, counts(), DOMINANT, counts(), TONIC, counts(), drop(), counts(), drop(),
                     counts(), drop(), counts())
        self.assertEqual([found[k] for k in (2, 4, 6, 8, 10, 12)], [
            [1, 0, 1], [4, 9, 1, 11, 1, 12, 1, 15, 1], [4, 15, 1, 17, 1, 18, 1, 23, 1],
            [4, 9, 1, 11, 1, 12, 1, 15, 1], [1, 0, 1], [-7]])


class NotCounted(unittest.TestCase):
    def test_every_way_that_judge_finds_right_and_no_other(self):
        # All settings of two chords of two names: each pair is asked of judge.
        pieces = (("c3", "c g", "g3", "g d"), ("a3", "a e", "d4", "d a"), ("c3", "c g", "g2", "b g"),
                  ("f3", "f a", "g3", "g b"), ("c4", "c e", "d4", "d f"), ("b2", "g d", "c3", "c e"))
        for bass, names, next_bass, next_names in pieces:
            for leaps in ((12, 12, 12), (4, 4, 4), (0, 12, 12), (12, 0, 12), (12, 12, 0)):
                with self.subTest(bass=bass, names=names, next_bass=next_bass, leaps=leaps):
                    self.compare(chord_of(bass, names), chord_of(next_bass, next_names), leaps)

    def compare(self, first, second, leaps):
        given = [62, 79, 55, 67, 43, 56, 60, 60, 60] + list(leaps) + [0, 0, 0]
        before = [rules(given), first, second]
        settings = []
        for i in (0, 1):
            how_many = tell(*before)[1 + i][1]
            settings.append([last(*before, setting(i, k))[1:7] for k in range(how_many)])
        right = [[0] + one + other for one in settings[0] for other in settings[1]
                 if last(*before, judge(*one, *other))[0] == 0]
        self.assertEqual(all_ways(before, len(right) + 1), right + [[-3]])
        self.assertEqual(last(*before, count(0)), [len(right), len(right)])


class NoWay(unittest.TestCase):
    def test_a_chord_without_settings(self):
        silent = chord_of("c9", "c")
        for chords in ([silent], [silent, TONIC], [TONIC, silent], [TONIC, silent, DOMINANT], [silent] * 8):
            with self.subTest(chords=chords):
                found = tell(rules(NARROW), *chords, count(0), count(119), counts(), nth(0), nth(HUGE))
                self.assertEqual(found[-5:], [[0, 0], [0, 0], [0], [-3], [-3]])

    def test_settings_but_no_way(self):
        for given in (NARROW[:9] + [1, 2, 12] + NARROW[12:], NARROW[:9] + [0, 12, 12] + NARROW[12:]):
            with self.subTest(leaps=given[9:12]):
                found = tell(rules(given), TONIC, DOMINANT, count(0), count(119), counts(), nth(0), nth(HUGE))
                self.assertEqual(found[1:], [[0, 1], [1, 4], [0, 0], [0, 0], [0], [-3], [-3]])

    def test_none_in_the_middle_and_a_way_again(self):
        found = tell(rules(NARROW), TONIC, chord_of("c9", "c"), counts(), drop(), DOMINANT, counts())
        self.assertEqual([found[3], found[6]], [[0], [4, 9, 1, 11, 1, 12, 1, 15, 1]])


class Edges(unittest.TestCase):
    def one_moves(self, prices, *names):
        """Chords over C with two C in the middle; the soprano has each name of its own."""
        return [rules(ONE_MOVES + list(prices))] + [chord_of("c3", "c " + name) for name in names]

    def test_a_cost_of_119(self):
        found = tell(*self.one_moves((0, 0, 17), "d", "a"), counts(), count(118), count(119), nth(0), nth(1))
        way = notes("d5 c5 c5 a5 c5 c5")
        self.assertEqual(found[3:], [[1, 119, 1], [0, 0], [1, 1], [119] + way, [-3]])

    def test_a_cost_of_120(self):
        before = self.one_moves((0, 0, 20), "d", "g#")
        found = tell(*before, counts(), count(119), nth(0), judge(*notes("d5 c5 c5 g#5 c5 c5")))
        self.assertEqual(found[3:], [[0], [0, 0], [-3], [0, 120]])

    def test_only_what_costs_less_than_120(self):
        before = self.one_moves((0, 0, 17), "d", "g# a bb")
        found = tell(*before, counts(), count(119), nth(1), nth(2))
        self.assertEqual(found[3:], [[2, 102, 1, 119, 1], [2, 1], [119] + notes("d5 c5 c5 a5 c5 c5"), [-3]])
        for text, cost in (("g#5", 102), ("a5", 119), ("bb5", 136)):
            with self.subTest(text=text):
                self.assertEqual(last(*before, judge(*notes("d5 c5 c5 %s c5 c5" % text))), [0, cost])

    def test_too_dear_on_the_way_already(self):
        # 140 down and up again, or 0: what's too dear in the middle doesn't come back.
        before = self.one_moves((0, 0, 20), "d", "d a", "d")
        self.assertEqual(last(*before, counts()), [1, 0, 1])
        self.assertEqual(last(*before, judge(*notes("d5 c5 c5 a5 c5 c5 d5 c5 c5"))), [0, 280])

    def test_costs_of_settings_alone(self):
        for price, chords, expected in ((17, 7, [1, 119, 1]), (20, 6, [0]), (20, 5, [1, 100, 1]), (15, 8, [0]),
                                        (14, 8, [1, 112, 1]), (20, 8, [0])):
            with self.subTest(price=price, chords=chords):
                before = self.one_moves((price, 20, 20), *["d"] * chords)
                self.assertEqual(last(*before, counts()), expected)
                self.assertEqual(last(*before, judge(*notes("d5 c5 c5 " * chords))), [0, price * chords])

    def test_dearest_setting(self):
        given = [60, 60, 60, 60, 60, 60, 60, 60, 60, 0, 0, 0, 20, 20, 20]
        self.assertEqual(last(rules(given), chord_of("c3", "c e g b"), counts()), [1, 80, 1])
        self.assertEqual(last(rules(given), *[chord_of("c3", "c e g b")] * 2, counts()), [0])

    def test_prices_of_0(self):
        found = tell(rules_but(n12=0, n13=0, n14=0), chord(*C_MAJOR), chord(*C_MAJOR), counts(), count(0), count(119))
        self.assertEqual(found[3][:2], [1, 0])
        self.assertEqual(found[4], [found[3][2]] * 2)
        self.assertEqual(found[5], [found[3][2], 0])

    def test_a_voice_goes_just_as_far_as_it_may(self):
        for leap, expected in ((7, [1, 7, 1]), (6, [0]), (8, [1, 7, 1])):
            with self.subTest(leap=leap):
                given = ONE_MOVES[:9] + [leap, 0, 0, 0, 0, 1]
                self.assertEqual(last(rules(given), chord_of("c3", "c d"), chord_of("c3", "c a"), counts()), expected)

    def test_each_voice_goes_just_as_far_as_it_may(self):
        # To the dominant's last setting they go 2, 3 and 4, to others less.
        for leaps, expected in (((2, 3, 4), 4), ((1, 3, 4), 2), ((2, 2, 4), 0), ((2, 3, 3), 2), ((1, 3, 0), 1)):
            with self.subTest(leaps=leaps):
                given = FREE[:9] + list(leaps) + FREE[12:]
                self.assertEqual(last(rules(given), TONIC, DOMINANT, count(0)), [expected, expected])

    def test_no_move_at_all(self):
        given = FIRST_RULES[:9] + [0, 0, 0, 0, 0, 20]
        self.assertEqual(last(rules(given), *[chord(*C_MAJOR)] * 8, counts()), [1, 0, 23])


class EightChords(unittest.TestCase):
    def test_as_many_settings_as_can_be(self):
        names = ("c e g b", "c d f a", "c eb g bb", "c f ab d", "c e g# b", "c g d a", "c c# f# g", "c e a f")
        basses = ("c1", "d1", "eb1", "f1", "e1", "c1", "c2", "a0")
        chords = [chord_of(basses[k], names[k]) for k in range(8)]
        found = tell(rules(MANY + [3, 4, 0]), *chords, counts(), count(119), nth(0), nth(HUGE))
        self.assertEqual([answer[1] for answer in found[1:9]], [729] * 8)
        told = found[9]
        self.assertEqual(told[0], len(told[1::2]))
        self.assertEqual(found[10][0], sum(told[2::2]))
        self.assertGreater(found[10][0], HUGE)
        self.assertEqual(found[11][0], told[1])
        self.assertGreaterEqual(found[12][0], told[1])
        for way in (found[11], found[12]):
            self.assertEqual(last(rules(MANY + [3, 4, 0]), *chords, judge(*way[1:])), [0, way[0]])
        # Backwards it's as good.
        self.assertEqual(last(rules(MANY + [3, 4, 0]), *reversed(chords), counts()), told)

    def test_as_many_names_of_one_sound_as_can_be(self):
        chords = [chord_of("c1", "b# c dbb g")] * 8
        found = tell(rules(MANY + [0, 0, 1]), *chords, counts(), nth(0), nth(HUGE))
        self.assertEqual(found[1], [0, 1331])
        # All stay: each voice on one of three C, with three names in each chord, or on one of two G.
        self.assertEqual(found[9][1:3], [0, (3 * 3 ** 8 + 2) ** 3])
        for way in found[10:]:
            self.assertEqual(last(rules(MANY + [0, 0, 1]), *chords, judge(*way[1:])), [0, way[0]])
        self.assertEqual(found[10][0], 0)
        self.assertGreater(found[11][0], 0)

    def test_longest_lists_of_calls(self):
        chords = [chord_of("c1", "c e g b"), chord_of("d1", "c d f a")] * 4
        calls = [rules(MANY + [1, 1, 1]), *chords, counts(), rules(MANY + [0, 0, 20]), counts()]
        rest = [judge(*notes("c6 c4 c3 " * 8))] * (60 - len(calls))
        found = tell(*calls, *rest)
        self.assertEqual(len(found), 60)
        self.assertGreater(found[9][0], 20)
        # With this price every cost is so many twenties.
        self.assertEqual(found[11], [6] + [number for k in range(6) for number in (20 * k, found[11][2 * k + 2])])
        self.assertEqual(found[12:], [found[12]] * len(rest))


class Agreement(unittest.TestCase):
    PIECES = ([chord_of("c4", "c e g", 0), chord_of("f3", "f a c", 0)],
              [chord_of("c4", "c e g", 0), chord_of("g3", "g b d f"), chord_of("c4", "c e g", 0)],
              [chord_of("a3", "a c e", 0), chord_of("d4", "d f a", 0), chord_of("e3", "e g# b", 0),
               chord_of("a3", "a c e", 0)],
              [chord_of("c4", "c e g", 0), chord_of("g3", "g b d", 0)] * 4)
    RULES = (FIRST_RULES, FIRST_RULES[:12] + [0, 0, 0], FIRST_RULES[:9] + [5, 4, 4, 0, 2, 1],
             FIRST_RULES[:9] + [60, 60, 60, 1, 2, 1])

    def setUp(self):
        self.each = [[rules(given)] + piece for piece in self.PIECES for given in self.RULES]

    def test_count_and_counts(self):
        for before in self.each:
            told = last(*before, counts())
            by_cost = dict(zip(told[1::2], told[2::2]))
            self.assertEqual(list(by_cost), sorted(by_cost))
            self.assertEqual(told[0], len(by_cost))
            self.assertNotIn(0, by_cost.values())
            for start in range(0, 120, 6):
                found = tell(*before, *[count(p) for p in range(start, start + 6)])[len(before):]
                for p in range(start, start + 6):
                    most = sum(number for cost, number in by_cost.items() if cost <= p)
                    self.assertEqual(found[p - start], [most, by_cost.get(p, 0)])

    def test_nth_and_counts(self):
        for before in self.each:
            told = last(*before, counts())
            ahead = 0
            for cost, number in list(zip(told[1::2], told[2::2]))[:12]:
                found = tell(*before, nth(ahead), nth(ahead + number - 1), nth(ahead + number // 2))[len(before):]
                self.assertEqual([way[0] for way in found], [cost] * 3)
                ahead += number
            total = sum(told[2::2])
            found = tell(*before, nth(total - 1), nth(total))[len(before):]
            self.assertEqual([found[0][0], found[1]], [told[-2], [-3]])

    def test_judge_and_nth(self):
        for before in self.each:
            total = last(*before, count(119))[0]
            for n in sorted({0, 1, total // 3, total // 2, total - 2, total - 1}):
                way = last(*before, nth(n))
                self.assertEqual(last(*before, judge(*way[1:])), [0, way[0]])

    def test_none_is_smoother_than_the_first(self):
        for before in self.each:
            found = tell(*before, nth(0), counts())[-2:]
            self.assertEqual(found[0][0], found[1][1])

    def test_neighbours_are_in_order(self):
        for before in self.each:
            total = last(*before, count(119))[0]
            self.assertGreater(total, 6)
            for n in (0, total // 3, total // 2, total - 6):
                found = tell(*before, *[nth(k) for k in range(n, n + 6)])[len(before):]
                keys = [[way[0]] + [place(way[k], way[k + 1]) for k in range(1, len(way), 2)] for way in found]
                self.assertEqual(keys, sorted(keys))
                self.assertEqual(len({tuple(key) for key in keys}), 6)

    def test_backwards_it_is_as_good(self):
        for before in self.each:
            backwards = before[:1] + before[:0:-1]
            self.assertEqual(last(*backwards, counts()), last(*before, counts()))
            total = last(*before, count(119))[0]
            for n in (0, total // 2, total - 1):
                way = last(*before, nth(n))
                turned = [number for k in range(len(way) - 6, 0, -6) for number in way[k:k + 6]]
                self.assertEqual(last(*backwards, judge(*turned)), [0, way[0]])


def place(step, alteration):
    return (12 * (step // 7) + (0, 2, 4, 5, 7, 9, 11)[step % 7] + alteration, step)


class Refused(unittest.TestCase):
    def test_p_out_of_its_range(self):
        for p in (-1, 120, 121, HUGE, -HUGE):
            with self.subTest(p=p):
                self.assertEqual(last(chord(*C_MAJOR), count(p)), [-1])
                self.assertEqual(last(count(p)), [-1])

    def test_p_at_its_edges(self):
        for p in (0, 119):
            with self.subTest(p=p):
                self.assertEqual(last(count(p)), [-7])
                self.assertEqual(len(last(chord(*C_MAJOR), count(p))), 2)

    def test_n_below_0(self):
        for n in (-1, -23, -HUGE):
            with self.subTest(n=n):
                self.assertEqual(last(chord(*C_MAJOR), nth(n)), [-1])
                self.assertEqual(last(nth(n)), [-1])

    def test_no_chords(self):
        for call in (counts(), count(0), count(60), nth(0), nth(HUGE)):
            with self.subTest(call=call):
                self.assertEqual(last(call), [-7])
                self.assertEqual(last(chord(*C_MAJOR), drop(), call), [-7])
                self.assertEqual(last(chord(28, 0), call), [-7])

    def test_no_such_way(self):
        for n in (23, 24, HUGE):
            with self.subTest(n=n):
                self.assertEqual(last(chord(*C_MAJOR), nth(n)), [-3])

    def test_nothing_is_changed(self):
        found = tell(chord(*C_MAJOR), count(-1), count(120), nth(-1), nth(23), counts(), nth(0), setting(0, 0), drop(),
                     drop())
        self.assertEqual(found, [[0, 23], [-1], [-1], [-1], [-3], [2, 0, 10, 3, 13], [0, 35, 0, 32, 0, 30, 0],
                                 [23, 35, 0, 32, 0, 30, 0, 0], [0], [-3]])

    def test_refused_rules_and_chords_change_no_way(self):
        found = tell(chord(*C_MAJOR), counts(), rules_but(n12=21), counts(), chord(28), counts(), chord(28, 0),
                     counts(), setting(5, 5), counts())
        self.assertEqual(found[1::2], [[2, 0, 10, 3, 13]] * 5)
        full = tell(*[TONIC] * 8, counts(), TONIC, counts())
        self.assertEqual(full[9:], [[-5], full[8]])


if __name__ == "__main__":
    unittest.main()
