"""answers: how calls and answers stand in their lists, and that nothing is changed or kept."""

import unittest

import bassfilled.voices
from bassfilled.voices import answers
from tests.calling import (
    C_MAJOR, FIRST_RULES, HUGE, chord, count, counts, drop, judge, notes, nth, rules, rules_but, setting, tell)

MANY = (chord(*C_MAJOR) + setting(0, 0) + rules_but(n0=61, n12=9) + setting(0, 1) + chord(28, 0, 0, 0, 0) + drop()
        + rules([]) + chord() + chord(28, 0) + setting(9, 9) + setting(0, HUGE) + drop() + drop())
MANY_ANSWERED = [2, 0, 23, 8, 23, 35, 0, 32, 0, 30, 0, 0, 1, 0, 8, 22, 37, 0, 32, 0, 30, 0, 9, 2, 1, 3, 1, 1,
                 1, -1, 1, -1, 1, -2, 1, -1, 1, -3, 1, 0, 1, -3]
# Every call that tells of ways, right and refused; the second chord is the first one again.
WAYS = (count(0) + chord(*C_MAJOR) + counts() + count(3) + nth(22) + judge(*notes("c5 g4 e4")) + judge()
        + chord(*C_MAJOR) + nth(0) + judge(*notes("c5 g4 e4 e5 g4 c4")) + judge(*notes("c5 g4 e4 g5 g4 b4")) + nth(-1))
WAYS_ANSWERED = [1, -7, 2, 0, 23, 5, 2, 0, 10, 3, 13, 2, 23, 13, 7, 3, 46, 0, 39, 0, 37, 0, 2, 0, 0, 1, -2, 2, 1, 23,
                 13, 0, 35, 0, 32, 0, 30, 0, 35, 0, 32, 0, 30, 0, 2, 0, 8, 10, 2, -1, 1, 4, 9, 9, 1, 3, 2, 1, 1, -1]


def refuse(self, *given):
    raise AssertionError("what is handed in was changed")


class Unchangeable(list):
    append = clear = extend = insert = pop = remove = reverse = sort = refuse
    __setitem__ = __delitem__ = __iadd__ = __imul__ = refuse


class Form(unittest.TestCase):
    def test_where_it_is(self):
        self.assertIs(bassfilled.voices.answers, answers)
        self.assertEqual(answers(calls=[3]), [1, -3])

    def test_one_call_each(self):
        self.assertEqual(answers([1, 15] + FIRST_RULES), [1, 0])
        self.assertEqual(answers([2, 11] + C_MAJOR), [2, 0, 23])
        self.assertEqual(answers([3]), [1, -3])
        self.assertEqual(answers([4, 0, 0]), [1, -1])
        self.assertEqual(answers([5, 0]), [1, -7])
        self.assertEqual(answers([6]), [1, -7])
        self.assertEqual(answers([7, 0]), [1, -7])
        self.assertEqual(answers([8, 6, 35, 0, 32, 0, 30, 0]), [1, -7])

    def test_each_call_behind_a_chord(self):
        self.assertEqual(answers([2, 11] + C_MAJOR + [5, 0]), [2, 0, 23, 2, 10, 10])
        self.assertEqual(answers([2, 11] + C_MAJOR + [6]), [2, 0, 23, 5, 2, 0, 10, 3, 13])
        self.assertEqual(answers([2, 11] + C_MAJOR + [7, 0]), [2, 0, 23, 7, 0, 35, 0, 32, 0, 30, 0])
        self.assertEqual(answers([2, 11] + C_MAJOR + [8, 6, 35, 0, 32, 0, 30, 0]), [2, 0, 23, 2, 0, 0])
        self.assertEqual(answers([2, 11] + C_MAJOR + [8, 6, 35, 0, 32, 0, 31, 0]), [2, 0, 23, 6, 1, -1, 0, 4, 9, 9])

    def test_rows_without_numbers(self):
        self.assertEqual(answers([1, 0]), [1, -1])
        self.assertEqual(answers([2, 0]), [1, -1])
        self.assertEqual(answers([8, 0]), [1, -7])
        self.assertEqual(answers([1, 0, 2, 0, 8, 0, 3]), [1, -1, 1, -1, 1, -7, 1, -3])

    def test_rows_with_one_number(self):
        self.assertEqual(answers([1, 1, 3, 2, 1, 3, 8, 1, 3, 3]), [1, -1, 1, -1, 1, -2, 1, -3])

    def test_longest_rows(self):
        self.assertEqual(answers([1, 59] + [3] * 59 + [2, 59] + [3, 0] + [3] * 57 + [3]), [1, -1, 1, -2, 1, -3])
        self.assertEqual(answers([8, 59] + [0] * 59 + [8, 58] + [0] * 58 + [6]), [1, -2, 1, -7, 1, -7])

    def test_many_calls(self):
        self.assertEqual(answers(MANY), MANY_ANSWERED)
        self.assertEqual(answers(WAYS), WAYS_ANSWERED)

    def test_numbers_that_are_calls_too(self):
        # The numbers of a call are none of its own: 5 to 8 as what's asked for, and in a row.
        self.assertEqual(answers([5, 6, 7, 8, 6, 8, 2, 7, 2, 4, 5, 6]), [1, -7, 1, -7, 1, -7, 1, -7, 1, -1])

    def test_sixty_calls(self):
        self.assertEqual(answers([3] * 60), [1, -3] * 60)

    def test_longest_list(self):
        calls = ([2, 59] + [HUGE] * 59) * 59 + [1, 59] + [-HUGE] * 59
        self.assertEqual(answers(calls), [1, -1] * 60)
        self.assertEqual(answers(([8, 59] + [HUGE] * 59) * 60), [1, -2] * 60)

    def test_whole_numbers_in_a_list(self):
        for calls in (MANY, WAYS):
            told = answers(calls)
            self.assertIs(type(told), list)
            for number in told:
                self.assertIs(type(number), int)


class NothingChanged(unittest.TestCase):
    def test_same_afterwards(self):
        for given in (MANY, WAYS):
            calls = list(given)
            answers(calls)
            self.assertEqual(calls, given)

    def test_not_for_a_while_either(self):
        self.assertEqual(answers(Unchangeable(MANY)), MANY_ANSWERED)
        self.assertEqual(answers(Unchangeable(WAYS)), WAYS_ANSWERED)

    def test_the_answer_is_a_list_of_its_own(self):
        first = answers(MANY)
        first.clear()
        self.assertEqual(answers(MANY), MANY_ANSWERED)

    def test_what_tells_of_ways_changes_nothing_for_later_calls(self):
        others = [chord(*C_MAJOR), setting(0, 3), chord(25, 0, 4, 0, 0, 6, 0, 0, 1, 0, 0), setting(1, 2), rules_but(n12=9),
                  setting(0, 3), drop(), chord(24, 0, 3, 0, 0, 5, 0, 0, 0, 0, 0), counts(), nth(17), count(30),
                  judge(*notes("c5 g4 e4 c5 a4 f4")), drop(), drop(), drop()]
        plain = tell(*others)
        for call in (count(20), counts(), nth(5), judge(*notes("c5 g4 e4")), judge(*notes("c5 g4 e4 c5 a4 f4")),
                     count(-1), nth(-1), judge(70, 0)):
            for at in range(len(others) + 1):
                with self.subTest(call=call, at=at):
                    found = tell(*others[:at], call, *others[at:])
                    self.assertEqual(found[:at] + found[at + 1:], plain)


class NothingKept(unittest.TestCase):
    def test_the_same_again(self):
        for again in (1, 2):
            self.assertEqual(answers(MANY), MANY_ANSWERED)
            self.assertEqual(answers(WAYS), WAYS_ANSWERED)

    def test_neither_chords_nor_rules(self):
        answers(rules_but(n0=61) + chord(*C_MAJOR) + chord(*C_MAJOR) + counts())
        self.assertEqual(answers(setting(0, 0) + drop() + counts() + chord(*C_MAJOR) + counts()),
                         [1, -1, 1, -3, 1, -7, 2, 0, 23, 5, 2, 0, 10, 3, 13])


if __name__ == "__main__":
    unittest.main()
