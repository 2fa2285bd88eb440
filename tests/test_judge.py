"""judge: what is wrong with notes that were written, in which order it's told, and what they cost."""

import unittest

from tests.calling import (
    C_MAJOR, FIRST_RULES, HUGE, chord, chord_of, counts, drop, judge, last, notes, rules, setting, tell)

# Wide ranges, and everything near enough: what's wrong in a test below is what it is about.
LOOSE = [60, 84, 48, 72, 36, 60, 60, 60, 60, 60, 60, 60, 3, 4, 1]


def chord_under(row):
    """A chord over the row's bass with the names of its three upper notes, which may be left out."""
    words = row.split()
    names = []
    for word in words[:3]:
        if word[:-1] not in names:
            names.append(word[:-1])
    return chord_of(words[3], " ".join(names))


def written(*rows):
    """The upper notes of rows of four notes each, as judge takes them."""
    return [number for row in rows for number in notes(row)[:6]]


def with_leaps(*leaps):
    return LOOSE[:9] + list(leaps) + LOOSE[12:]


def judged(*rows, given=LOOSE):
    return last(rules(given), *[chord_under(row) for row in rows], judge(*written(*rows)))


def told(answer):
    """What judge tells as wrong, four numbers each."""
    return [answer[k:k + 4] for k in range(2, len(answer), 4)]


class Right(unittest.TestCase):
    def test_one_chord(self):
        self.assertEqual(last(chord(*C_MAJOR), judge(*notes("c5 g4 e4"))), [0, 0])
        self.assertEqual(last(chord(*C_MAJOR), judge(*notes("e5 g4 e4"))), [0, 3])

    def test_two_chords(self):
        self.assertEqual(judged("c6 e5 g4 c4", "c6 f5 a4 f4"), [0, 3])

    def test_eight_chords(self):
        rows = ("c6 e5 g4 c4", "c6 f5 a4 f4") * 4
        self.assertEqual(judged(*rows), [0, 21])

    def test_each_setting_of_a_chord(self):
        for k in range(23):
            told = tell(chord(*C_MAJOR), setting(0, k))[1]
            with self.subTest(k=k):
                self.assertEqual(last(chord(*C_MAJOR), judge(*told[1:7])), [0, told[7]])

    def test_cost_of_settings_and_moves(self):
        # C twice in the first; B lacks in the second; the soprano goes 4 down, the alto 1 up, the tenor stays.
        calls = [rules(LOOSE[:12] + [5, 11, 2]), chord_of("c3", "c g"), chord_of("g3", "g ab c b")]
        self.assertEqual(last(*calls, judge(*notes("c6 g5 c4 ab5 ab5 c4"))), [0, 5 + 5 + 11 + 2 * (4 + 1)])

    def test_the_bass_moves_for_nothing(self):
        self.assertEqual(judged("c6 e5 g4 c4", "c6 e5 g4 g2", "c6 e5 g4 e3"), [0, 0])

    def test_prices_of_0(self):
        self.assertEqual(judged("c6 c5 g4 c4", "a5 c5 f4 f3", given=LOOSE[:12] + [0, 0, 0]), [0, 0])

    def test_prices_of_20(self):
        self.assertEqual(judged("c6 c5 g4 c4", "a5 c5 f4 f3", given=LOOSE[:12] + [20, 20, 20]), [0, 20 + 20 * 5])

    def test_costs_of_119_120_and_more(self):
        # The soprano alone moves, by 7, by 6 and by 24 semitones.
        self.assertEqual(judged("d5 c5 g4 c4", "a5 c5 g4 c4", given=LOOSE[:12] + [0, 0, 17]), [0, 119])
        self.assertEqual(judged("d5 c5 g4 c4", "g#5 c5 g4 c4", given=LOOSE[:12] + [0, 0, 20]), [0, 120])
        rows = ("c5 c5 g4 c4", "c7 c5 g4 c4") * 4
        self.assertEqual(judged(*rows, given=LOOSE[:12] + [0, 0, 20]), [0, 20 * 24 * 7])

    def test_rules_of_the_moment(self):
        calls = [chord(*C_MAJOR), chord(*C_MAJOR)]
        asked = judge(*notes("c5 g4 e4 e5 g4 e4"))
        found = tell(*calls, asked, rules(FIRST_RULES[:9] + [4, 0, 0, 1, 1, 5]), asked,
                     rules(FIRST_RULES[:9] + [3, 0, 0, 1, 1, 5]), asked, rules(FIRST_RULES), drop(), asked)
        self.assertEqual([found[2], found[4], found[6], found[9]],
                         [[0, 7], [0, 21], [1, -1, 1, 2, 0, 9], [-2]])


class Parallels(unittest.TestCase):
    def test_each_two_voices(self):
        pieces = {
            (0, 1): ("c6 f5 g4 c3", "d6 g5 g4 c3"),
            (0, 2): ("c6 g5 c4 c3", "d6 g5 d4 c3"),
            (0, 3): ("c6 g5 e4 c4", "d6 g5 e4 d4"),
            (1, 2): ("g6 f5 bb4 c3", "g6 g5 c5 c3"),
            (1, 3): ("c7 g5 e4 c4", "c7 a5 e4 d4"),
            (2, 3): ("c6 e5 g4 c4", "c6 e5 a4 d4")}
        for voices, rows in pieces.items():
            with self.subTest(voices=voices):
                self.assertEqual(judged(*rows), [1, -1, 1, 1, voices[0], voices[1]])
                self.assertEqual(judged(*reversed(rows)), [1, -1, 1, 1, voices[0], voices[1]])

    def test_but_for_twelves(self):
        # A fifth and a twelfth; an octave and a unison; two octaves and one.
        self.assertEqual(judged("c6 f5 c4 c3", "g6 c5 c4 c3"), [1, -1, 1, 1, 0, 1])
        self.assertEqual(judged("c6 c5 c4 c3", "d5 d5 c4 c3"), [1, -1, 1, 1, 0, 1])
        self.assertEqual(judged("c6 g5 c4 e3", "a5 g5 a4 e3"), [1, -1, 1, 1, 0, 2])

    def test_none_if_one_stays(self):
        self.assertEqual(judged("c6 f5 c4 c3", "c6 c5 c4 c3"), [0, 3 + 3 + 5])
        self.assertEqual(judged("c6 c5 e4 e3", "c6 c5 e4 c3")[0], 0)
        self.assertEqual(judged("c6 c5 e4 e3", "c5 c5 e4 e3")[0], 0)

    def test_a_sound_that_stays_under_another_name(self):
        self.assertEqual(judged("c#6 f#5 g3 c3", "db6 gb5 g3 c3"), [0, 0])
        self.assertEqual(judged("c#6 f#5 g3 c3", "db6 f#5 g3 c3"), [0, 0])
        # From C sharp and F sharp to an octave below and G flat: one of them only sounds otherwise.
        self.assertEqual(judged("c#6 f#4 g3 c3", "db5 gb4 g3 c3"), [0, 12])

    def test_none_from_octave_to_fifth(self):
        self.assertEqual(judged("c6 c5 e4 e3", "d6 g5 e4 e3")[0], 0)
        self.assertEqual(judged("d6 g5 e4 e3", "c6 c5 e4 e3")[0], 0)

    def test_no_other_difference(self):
        # The soprano above F, two semitones up both: a parallel from the octave and the fifth alone.
        steps = ("f5", "f#5", "g5", "ab5", "a5", "bb5", "b5", "c6", "c#6", "d6", "eb6", "e6", "f6")
        twos = ("g5", "g#5", "a5", "bb5", "b5", "c6", "c#6", "d6", "d#6", "e6", "f6", "f#6", "g6")
        for apart in range(13):
            with self.subTest(apart=apart):
                found = judged("%s f5 e4 c3" % steps[apart], "%s g5 e4 c3" % twos[apart])
                expected = [[1, 1, 0, 1]] if apart in (0, 7, 12) else []
                # G is beyond where the soprano was if that was F or F sharp.
                expected += [[1, 3, 1, 0]] if apart < 2 else []
                self.assertEqual(told(found), expected)


class TooFar(unittest.TestCase):
    def test_each_voice(self):
        start = "c6 c5 c4 c2"
        moves = ((0, "f6 c5 c4 c2", "f#6 c5 c4 c2"), (0, "g5 c5 c4 c2", "f#5 c5 c4 c2"),
                 (1, "c6 e5 c4 c2", "c6 f5 c4 c2"), (1, "c6 ab4 c4 c2", "c6 g4 c4 c2"),
                 (2, "c6 c5 eb4 c2", "c6 c5 e4 c2"), (2, "c6 c5 a3 c2", "c6 c5 ab3 c2"))
        given = with_leaps(5, 4, 3)
        for voice, just, more in moves:
            with self.subTest(voice=voice, just=just):
                self.assertEqual(judged(start, just, given=given)[0], 0)
                self.assertEqual(judged(start, more, given=given), [1, -1, 1, 2, voice, 9])

    def test_none_may_go(self):
        given = with_leaps(0, 0, 0)
        self.assertEqual(judged("c6 e5 g4 c4", "c6 e5 g4 e3", given=given), [0, 0])
        for voice, row in ((0, "c#6 e5 g4 c4"), (1, "c6 eb5 g4 c4"), (2, "c6 e5 ab4 c4")):
            with self.subTest(voice=voice):
                self.assertEqual(judged("c6 e5 g4 c4", row, given=given), [1, -1, 1, 2, voice, 9])

    def test_first_rules(self):
        calls = [chord_of("c3", "c"), chord_of("c3", "c")]
        moves = ((0, "c6 g4 c4", "c#6 g4 c4"), (0, "c4 g4 c4", "b3 g4 c4"),
                 (1, "c5 d5 c4", "c5 eb5 c4"), (1, "c5 c4 c4", "c5 b3 c4"),
                 (2, "c5 g4 g4", "c5 g4 ab4"), (2, "c5 g4 f3", "c5 g4 e3"))
        for voice, just, more in moves:
            with self.subTest(voice=voice, just=just):
                found = [told(last(*calls, judge(*notes("c5 g4 c4 " + text)))) for text in (just, more)]
                self.assertEqual([[row for row in rows if row[1] == 2] for rows in found], [[], [[1, 2, voice, 9]]])

    def test_sixty_semitones(self):
        calls = [rules(LOOSE), chord_of("c2", "c"), chord_of("c2", "c c#")]
        self.assertEqual(last(*calls, judge(*notes("c2 c2 c2 c7 c2 c2"))), [2, -1, 0, 4, 9, 9, 1, 4, 9, 9])
        self.assertEqual(last(*calls, judge(*notes("c2 c2 c2 c#7 c2 c2"))),
                         [3, -1, 0, 4, 9, 9, 1, 4, 9, 9, 1, 2, 0, 9])

    def test_the_bass_goes_as_far_as_it_likes(self):
        self.assertEqual(judged("c6 e5 g4 c0", "c6 e5 g4 f#4", given=LOOSE[:8] + [60] + [0, 0, 0] + LOOSE[12:]), [0, 0])


class Beyond(unittest.TestCase):
    def test_each_two_neighbours_both_ways(self):
        # Where they start; beyond where the other was; just where it was.
        pieces = {
            (1, 0): ("g5 c5 e4 c3", "f6 a5 e4 c3", "f6 g5 e4 c3"),
            (0, 1): ("g5 e5 e4 c3", "d5 a4 e4 c3", "e5 a4 e4 c3"),
            (2, 1): ("e6 ab4 d4 c3", "e6 e5 b4 c3", "e6 e5 ab4 c3"),
            (1, 2): ("c6 d5 a4 c3", "c6 g4 d4 c3", "c6 a4 d4 c3"),
            (3, 2): ("c6 e5 c4 e3", "c6 e5 g4 d4", "c6 e5 g4 c4"),
            (2, 3): ("c6 e5 g4 d4", "c6 e5 b3 e3", "c6 e5 d4 e3")}
        for voices, rows in pieces.items():
            with self.subTest(voices=voices):
                self.assertEqual(judged(rows[0], rows[1]), [1, -1, 1, 3, voices[0], voices[1]])
                self.assertEqual(judged(rows[0], rows[2])[0], 0)

    def test_of_neighbours_alone(self):
        # The tenor goes above where the soprano was: told is the alto's place alone, which it passes too.
        calls = [rules(LOOSE), chord_of("c3", "c e g"), chord_of("c3", "c e g")]
        self.assertEqual(last(*calls, judge(*notes("e5 c5 e4 e5 c5 g5"))),
                         [2, -1, 1, 4, 9, 9, 1, 3, 2, 1])

    def test_lower_by_number_even_if_they_cross(self):
        # The soprano, 60, lies below the alto, 64, and both stay.
        calls = [rules(LOOSE), chord_of("c3", "c e g"), chord_of("c3", "c e g")]
        self.assertEqual(last(*calls, judge(*notes("c5 e5 g4 c5 e5 g4"))),
                         [4, -1, 0, 4, 9, 9, 1, 4, 9, 9, 1, 3, 1, 0, 1, 3, 0, 1])


class NoSetting(unittest.TestCase):
    NONE = [1, -1, 0, 4, 9, 9]

    def judged_alone(self, given, asked_chord, text):
        return last(rules(given), asked_chord, judge(*notes(text)))

    def test_out_of_each_range(self):
        pieces = (("c5 c5 c4", "b4 b4 c4"), ("c7 c6 c4", "c#7 c6 c4"), ("c6 c4 c4", "c6 b3 b3"),
                  ("c6 c6 c4", "c#6 c#6 c4"), ("c6 c5 c3", "c6 c5 b2"), ("c6 c5 c5", "c6 c#5 c#5"))
        around = chord_of("c2", "b c c#")
        for just, more in pieces:
            with self.subTest(just=just):
                self.assertEqual(self.judged_alone(LOOSE[:12] + [0, 0, 0], around, just), [0, 0])
                self.assertEqual(self.judged_alone(LOOSE, around, more), self.NONE)

    def test_another_name(self):
        triad = chord_of("d4", "c e g")
        self.assertEqual(self.judged_alone(LOOSE, triad, "c6 e5 g4"), [0, 0])
        for text in ("b#5 e5 g4", "c6 fb5 g4", "c6 e5 abb4", "d6 e5 g4", "c6 d5 g4", "c6 e5 d4", "c#6 e5 g4"):
            with self.subTest(text=text):
                self.assertEqual(self.judged_alone(LOOSE, triad, text), self.NONE)

    def test_out_of_their_order(self):
        triad = chord_of("c4", "c e g")
        for text in ("c5 e5 g4", "c6 c4 e4", "c6 e5 g3", "c5 g5 e4", "e5 g4 c5"):
            with self.subTest(text=text):
                self.assertEqual(self.judged_alone(LOOSE, triad, text), self.NONE)
        self.assertEqual(self.judged_alone(LOOSE, triad, "c5 c5 c5"), [0, 3 + 4 + 4])

    def test_too_far_apart(self):
        given = LOOSE[:6] + [8, 9, 7] + LOOSE[9:]
        self.assertEqual(self.judged_alone(given, chord_of("c4", "c e g"), "c6 e5 g4"), [0, 0])
        self.assertEqual(self.judged_alone(given, chord_of("c4", "c# e g"), "c#6 e5 g4"), self.NONE)
        self.assertEqual(self.judged_alone(given, chord_of("c4", "b f g"), "b5 f5 g4"), self.NONE)
        self.assertEqual(self.judged_alone(given, chord_of("b3", "c e g"), "c6 e5 g4"), self.NONE)

    def test_a_name_lacks(self):
        self.assertEqual(self.judged_alone(LOOSE, chord_of("c4", "c e g b", 0), "c6 e5 g4"), self.NONE)
        self.assertEqual(self.judged_alone(LOOSE, chord_of("b3", "c e g b", 0), "c6 e5 g4"), [0, 0])
        self.assertEqual(self.judged_alone(LOOSE, chord_of("c4", "c e g b", 1), "c6 e5 g4"), [0, 4])

    def test_a_chord_without_settings(self):
        self.assertEqual(self.judged_alone(LOOSE, chord_of("c9", "c e g"), "c6 e5 g4"), self.NONE)

    def test_in_the_middle_with_nothing_else(self):
        calls = [rules(LOOSE), chord_of("c3", "c e g"), chord_of("c3", "c e g b", 0), chord_of("c3", "c e g")]
        self.assertEqual(last(*calls, judge(*notes("c6 e5 g4 c6 e5 g4 c6 e5 g4"))), [1, -1, 1, 4, 9, 9])

    def test_lowest_and_highest_notes(self):
        calls = [rules(LOOSE), chord_of("c3", "c e g")]
        for text in ("cbb0 cbb0 cbb0", "b##9 b##9 b##9", "b##9 cbb0 b##9"):
            with self.subTest(text=text):
                self.assertEqual(last(*calls, judge(*notes(text))), self.NONE)


class SeveralWrongs(unittest.TestCase):
    ROWS = ("c5 c5 c5 c5", "d5 d5 d5 d5", "c5 c5 c5 c5", "c5 c5 c5 c5")

    def test_in_their_order(self):
        # D is too high for the tenor; every two go in parallel, each goes too far and beyond.
        parallel = [[1, 0, 1], [1, 0, 2], [1, 0, 3], [1, 1, 2], [1, 1, 3], [1, 2, 3]]
        far = [[2, 0, 9], [2, 1, 9], [2, 2, 9]]
        up = [[4, 9, 9]] + parallel + far + [[3, 1, 0], [3, 2, 1], [3, 3, 2]]
        down = parallel + far + [[3, 0, 1], [3, 1, 2], [3, 2, 3]]
        expected = [number for at, rows in ((1, up), (2, down)) for row in rows for number in [at] + row]
        self.assertEqual(judged(*self.ROWS, given=with_leaps(1, 1, 1)), [25, -1] + expected)

    def test_the_lower_voice_ahead_of_the_upper(self):
        calls = [rules(LOOSE), chord_of("c3", "d c g"), chord_of("c3", "b e g")]
        self.assertEqual(last(*calls, judge(*notes("d5 c5 g4 b4 e5 g4"))),
                         [3, -1, 1, 4, 9, 9, 1, 3, 1, 0, 1, 3, 0, 1])

    def test_no_cost_whatever_is_wrong(self):
        for given in (LOOSE, LOOSE[:12] + [0, 0, 0], LOOSE[:12] + [20, 20, 20]):
            with self.subTest(prices=given[12:]):
                self.assertEqual(judged("c6 f5 g4 c3", "d6 g5 g4 c3", given=given)[:2], [1, -1])

    def test_first_and_last_chord(self):
        calls = [rules(LOOSE), chord_of("c3", "c e g"), chord_of("c3", "c e g")]
        self.assertEqual(last(*calls, judge(*notes("c6 d5 g4 c6 e5 b4"))),
                         [2, -1, 0, 4, 9, 9, 1, 4, 9, 9])

    def test_eighth_chord(self):
        rows = ["c6 e5 g4 c4"] * 7 + ["c6 e5 a4 d4"]
        self.assertEqual(judged(*rows), [1, -1, 7, 1, 2, 3])


class Crossed(unittest.TestCase):
    """Voices out of their order: the difference is that of the lower number's sound from the other's."""

    def judged_crossed(self, text):
        calls = [rules(LOOSE), chord_of("c2", "c"), chord_of("c2", "c")]
        return [row for row in told(last(*calls, judge(*notes(text)))) if row[1] == 1]

    def test_a_fourth_below_is_a_fifth_but_for_twelves(self):
        self.assertEqual(self.judged_crossed("c5 f5 e3 d5 g5 e3"), [[1, 1, 0, 1]])

    def test_a_fifth_below_is_a_fourth_but_for_twelves(self):
        self.assertEqual(self.judged_crossed("c5 g5 e3 d5 a5 e3"), [])

    def test_an_octave_below_is_an_octave(self):
        self.assertEqual(self.judged_crossed("c5 c6 e3 d5 d6 e3"), [[1, 1, 0, 1]])

    def test_from_a_fifth_above_to_a_fourth_below(self):
        self.assertEqual(self.judged_crossed("g5 c5 e3 d5 g5 e3"), [[1, 1, 0, 1]])
        self.assertEqual(self.judged_crossed("g5 c5 e3 d5 a5 e3"), [])


class Refused(unittest.TestCase):
    WRONG = ([70, 0], [-1, 0], [0, 3], [0, -3], [HUGE, 0], [-HUGE, 0], [0, HUGE], [0, -HUGE], [HUGE, HUGE],
             [-HUGE, -HUGE])

    def test_something_is_no_note(self):
        good = notes("c5 g4 e4")
        for wrong in self.WRONG:
            for place in (0, 2, 4):
                numbers = good[:place] + wrong + good[place + 2:]
                with self.subTest(numbers=numbers):
                    self.assertEqual(last(chord(*C_MAJOR), judge(*numbers)), [-2])
                    self.assertEqual(last(judge(*numbers)), [-2])

    def test_notes_at_their_edges(self):
        for note in ([0, 0], [69, 0], [0, -2], [69, 2], [35, -2], [35, 2]):
            with self.subTest(note=note):
                self.assertEqual(last(judge(*note)), [-7])
                self.assertEqual(last(chord(*C_MAJOR), judge(*note)), [-2])
                self.assertEqual(last(chord(*C_MAJOR), judge(*note * 3))[:2], [1, -1])

    def test_an_odd_count(self):
        for length in range(1, 60, 2):
            with self.subTest(length=length):
                numbers = [0] * length
                self.assertEqual(last(judge(*numbers)), [-2])
                self.assertEqual(last(chord(*C_MAJOR), judge(*numbers)), [-2])

    def test_no_chords(self):
        for length in range(0, 59, 2):
            with self.subTest(length=length):
                self.assertEqual(last(judge(*[0] * length)), [-7])

    def test_no_note_goes_ahead_of_no_chords(self):
        self.assertEqual(last(judge(70, 0)), [-2])
        self.assertEqual(last(judge(*[0] * 57 + [3])), [-2])

    def test_not_three_for_each_chord(self):
        for chords in (1, 2, 7, 8):
            calls = [chord(*C_MAJOR)] * chords
            for length in range(0, 59, 2):
                with self.subTest(chords=chords, length=length):
                    found = last(*calls, judge(*([35, 0] * 30)[:length]))
                    if length == 6 * chords:
                        self.assertEqual(found[:2], [chords, -1])
                    else:
                        self.assertEqual(found, [-2])

    def test_behind_a_drop(self):
        right = notes("c5 g4 e4")
        self.assertEqual(tell(chord(*C_MAJOR), judge(*right), drop(), judge(*right), judge(*right[:5]), judge()),
                         [[0, 23], [0, 0], [0], [-7], [-2], [-7]])

    def test_nothing_is_changed(self):
        right = judge(*notes("c5 g4 e4"))
        found = tell(chord(*C_MAJOR), judge(70, 0), judge(0), judge(), judge(*[0] * 12), right, counts(), setting(0, 1))
        self.assertEqual(found, [[0, 23], [-2], [-2], [-2], [-2], [0, 0], [2, 0, 10, 3, 13],
                                 [23, 37, 0, 32, 0, 28, 0, 0]])


if __name__ == "__main__":
    unittest.main()
