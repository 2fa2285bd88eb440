"""answers: how calls and answers stand in their lists, and that nothing is changed or kept."""

import unittest

import bassfilled.voices
from bassfilled.voices import answers
from tests.calling import C_MAJOR, FIRST_RULES, HUGE, chord, drop, rules, rules_but, setting

MANY = (chord(*C_MAJOR) + setting(0, 0) + rules_but(n0=61, n12=9) + setting(0, 1) + chord(28, 0, 0, 0, 0) + drop()
        + rules([]) + chord() + chord(28, 0) + setting(9, 9) + setting(0, HUGE) + drop() + drop())
MANY_ANSWERED = [2, 0, 23, 8, 23, 35, 0, 32, 0, 30, 0, 0, 1, 0, 8, 22, 37, 0, 32, 0, 30, 0, 9, 2, 1, 3, 1, 1,
                 1, -1, 1, -1, 1, -2, 1, -1, 1, -3, 1, 0, 1, -3]


def refuse(self, *given):
    raise AssertionError("what is handed in was changed")


class Unchangeable(list):
    append = clear = extend = insert = pop = remove = reverse = sort = refuse
    __setitem__ = __delitem__ = __iadd__ = __imul__ = refuse


class Form(unittest.TestCase):
    def test_where_it_is(self):
        self.assertIs(bassfilled.voices.answers, answers)
        self.assertEqual(answers(calls=[3]), [1, -3])

    def test_one_call_each(self):
        self.assertEqual(answers([1, 15] + FIRST_RULES), [1, 0])
        self.assertEqual(answers([2, 11] + C_MAJOR), [2, 0, 23])
        self.assertEqual(answers([3]), [1, -3])
        self.assertEqual(answers([4, 0, 0]), [1, -1])

    def test_rows_without_numbers(self):
        self.assertEqual(answers([1, 0]), [1, -1])
        self.assertEqual(answers([2, 0]), [1, -1])
        self.assertEqual(answers([1, 0, 2, 0, 3]), [1, -1, 1, -1, 1, -3])

    def test_rows_with_one_number(self):
        self.assertEqual(answers([1, 1, 3, 2, 1, 3, 3]), [1, -1, 1, -1, 1, -3])

    def test_longest_rows(self):
        self.assertEqual(answers([1, 59] + [3] * 59 + [2, 59] + [3, 0] + [3] * 57 + [3]), [1, -1, 1, -2, 1, -3])

    def test_many_calls(self):
        self.assertEqual(answers(MANY), MANY_ANSWERED)

    def test_sixty_calls(self):
        self.assertEqual(answers([3] * 60), [1, -3] * 60)

    def test_longest_list(self):
        calls = ([2, 59] + [HUGE] * 59) * 59 + [1, 59] + [-HUGE] * 59
        self.assertEqual(answers(calls), [1, -1] * 60)

    def test_whole_numbers_in_a_list(self):
        told = answers(MANY)
        self.assertIs(type(told), list)
        for number in told:
            self.assertIs(type(number), int)


class NothingChanged(unittest.TestCase):
    def test_same_afterwards(self):
        calls = list(MANY)
        answers(calls)
        self.assertEqual(calls, MANY)

    def test_not_for_a_while_either(self):
        self.assertEqual(answers(Unchangeable(MANY)), MANY_ANSWERED)

    def test_the_answer_is_a_list_of_its_own(self):
        first = answers(MANY)
        first.clear()
        self.assertEqual(answers(MANY), MANY_ANSWERED)


class NothingKept(unittest.TestCase):
    def test_the_same_again(self):
        self.assertEqual(answers(MANY), MANY_ANSWERED)
        self.assertEqual(answers(MANY), MANY_ANSWERED)

    def test_neither_chords_nor_rules(self):
        answers(rules_but(n0=61) + chord(*C_MAJOR) + chord(*C_MAJOR))
        self.assertEqual(answers(setting(0, 0) + drop() + chord(*C_MAJOR)), [1, -1, 1, -3, 2, 0, 23])


if __name__ == "__main__":
    unittest.main()
