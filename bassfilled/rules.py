"""Rules: ranges, how far apart voices may be, how far they may go, and what costs how much."""

FIRST_RULES = (60, 79, 53, 72, 48, 67, 12, 12, 24, 12, 7, 7, 3, 4, 1)
HIGHEST_SOUND = 119
WIDEST_RANGE = 24
MOST_SEMITONES = 60
HIGHEST_PRICE = 20


class Rules:
    def __init__(self, numbers):
        self.ranges = [(numbers[0], numbers[1]), (numbers[2], numbers[3]), (numbers[4], numbers[5])]
        self.apart = numbers[6:9]
        self.leaps = numbers[9:12]
        self.twice = numbers[12]
        self.left = numbers[13]
        self.move = numbers[14]


def first_rules():
    return Rules(list(FIRST_RULES))


def is_range(low, high):
    return 0 <= low <= high <= HIGHEST_SOUND and high - low <= WIDEST_RANGE


def are_all_within(numbers, most):
    return all([0 <= number <= most for number in numbers])


def are_rules(numbers):
    if len(numbers) != len(FIRST_RULES):
        return False
    for k in (0, 2, 4):
        if not is_range(numbers[k], numbers[k + 1]):
            return False
    return are_all_within(numbers[6:12], MOST_SEMITONES) and are_all_within(numbers[12:], HIGHEST_PRICE)
