"""What the tests share: calls written as lists, and their answers taken apart again."""

from bassfilled.voices import answers

FIRST_RULES = [60, 79, 53, 72, 48, 67, 12, 12, 24, 12, 7, 7, 3, 4, 1]
HUGE = 9007199254740992
C_MAJOR = [28, 0, 0, 0, 0, 2, 0, 0, 4, 0, 0]
C_MAJOR_SETTINGS = 23


def rules(numbers):
    return [1, len(numbers)] + list(numbers)


def rules_but(**changes):
    """The first rules with some numbers changed: n5=66 changes the number at place 5."""
    numbers = list(FIRST_RULES)
    for place, number in changes.items():
        numbers[int(place[1:])] = number
    return rules(numbers)


def chord(*numbers):
    return [2, len(numbers)] + list(numbers)


def drop():
    return [3]


def setting(i, k):
    return [4, i, k]


def split(told):
    found = []
    at = 0
    while at < len(told):
        end = at + 1 + told[at]
        if told[at] < 1 or end > len(told):
            raise AssertionError("the counts and the numbers behind them don't fit: %r" % (told,))
        found.append(told[at + 1:end])
        at = end
    return found


def tell(*calls):
    """The answers to these calls, a list each."""
    if not 1 <= len(calls) <= 60:
        raise AssertionError("1 to 60 calls are handed in")
    flat = [number for call in calls for number in call]
    found = split(answers(flat))
    if len(found) != len(calls):
        raise AssertionError("%d calls, %d answers" % (len(calls), len(found)))
    return found


def last(*calls):
    return tell(*calls)[-1]


def all_settings(before, i, count):
    """Settings 0 to count - 1 of chord i behind the calls before, as answered."""
    found = []
    room = 60 - len(before)
    for start in range(0, count, room):
        asked = [setting(i, k) for k in range(start, min(start + room, count))]
        found.extend(tell(*before, *asked)[len(before):])
    return found
