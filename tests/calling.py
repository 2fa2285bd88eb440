"""What the tests share: calls written as lists, and their answers taken apart again."""

from bassfilled.voices import answers

FIRST_RULES = [60, 79, 53, 72, 48, 67, 12, 12, 24, 12, 7, 7, 3, 4, 1]
HUGE = 9007199254740992
C_MAJOR = [28, 0, 0, 0, 0, 2, 0, 0, 4, 0, 0]
C_MAJOR_SETTINGS = 23
# Every setting of the plain chord in order, worked out by hand: the three notes' steps, and the cost.
C_MAJOR_BY_HAND = (
    (35, 32, 30, 0),
    (37, 32, 28, 0), (37, 32, 30, 3), (37, 32, 32, 3), (37, 35, 32, 0), (37, 37, 32, 3),
    (39, 32, 30, 3), (39, 35, 30, 0), (39, 37, 30, 3), (39, 37, 32, 3), (39, 37, 35, 0), (39, 37, 37, 3),
    (39, 39, 37, 3),
    (42, 37, 32, 0), (42, 39, 37, 0),
    (44, 37, 32, 3), (44, 39, 32, 3), (44, 39, 35, 0), (44, 39, 37, 3), (44, 39, 39, 3), (44, 42, 39, 0),
    (46, 39, 37, 3), (46, 42, 37, 0))


def rules(numbers):
    return [1, len(numbers)] + list(numbers)


def rules_but(**changes):
    """The first rules with some numbers changed: n5=66 changes the number at place 5."""
    numbers = list(FIRST_RULES)
    for place, number in changes.items():
        numbers[int(place[1:])] = number
    return rules(numbers)


def chord(*numbers):
    return [2, len(numbers)] + list(numbers)


def drop():
    return [3]


def setting(i, k):
    return [4, i, k]


def count(p):
    return [5, p]


def counts():
    return [6]


def nth(n):
    return [7, n]


def judge(*numbers):
    return [8, len(numbers)] + list(numbers)


def notes(text):
    """Notes written as c5, f#4 or bb4 (C of octave 5 sounds 60), as steps and alterations."""
    numbers = []
    for word in text.split():
        signs = word[1:-1]
        numbers.append(7 * int(word[-1]) + "cdefgab".index(word[0]))
        numbers.append(signs.count("#") - signs.count("b"))
    return numbers


def chord_of(bass, names, may_lack=1):
    """The call for a chord written in words: notes' names without octaves, which may all be left out or none."""
    numbers = notes(bass)
    for name in names.split():
        at = notes(name + "0")
        numbers.extend([at[0], at[1], may_lack])
    return chord(*numbers)


def split(told):
    found = []
    at = 0
    while at < len(told):
        end = at + 1 + told[at]
        if told[at] < 1 or end > len(told):
            raise AssertionError("the counts and the numbers behind them don't fit: %r" % (told,))
        found.append(told[at + 1:end])
        at = end
    return found


def tell(*calls):
    """The answers to these calls, a list each."""
    if not 1 <= len(calls) <= 60:
        raise AssertionError("1 to 60 calls are handed in")
    if len([call for call in calls if call[0] in (5, 6, 7)]) > 6:
        raise AssertionError("at most 6 calls of count, counts and nth are handed in")
    flat = [number for call in calls for number in call]
    found = split(answers(flat))
    if len(found) != len(calls):
        raise AssertionError("%d calls, %d answers" % (len(calls), len(found)))
    return found


def last(*calls):
    return tell(*calls)[-1]


def all_settings(before, i, count):
    """Settings 0 to count - 1 of chord i behind the calls before, as answered."""
    found = []
    room = 60 - len(before)
    for start in range(0, count, room):
        asked = [setting(i, k) for k in range(start, min(start + room, count))]
        found.extend(tell(*before, *asked)[len(before):])
    return found
