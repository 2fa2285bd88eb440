"""Ways: a setting of each chord with nothing wrong from any to the next; how many there are, and which."""

from bassfilled.moves import semitones_moved, wrong_moves
from bassfilled.passage import Passage
from bassfilled.settings import four_sounds, setting_cost, settings_of
from bassfilled.tallies import by_cost, how_many_at, made_dearer, one_free_way, width_for

NOWHERE = ()


class Choice:
    def __init__(self, rules, chord, setting):
        self.notes = setting
        self.sounds = four_sounds(chord, setting)
        self.cost = setting_cost(rules, chord, setting)


def choices_of(rules, chord):
    return [Choice(rules, chord, setting) for setting in settings_of(rules, chord)]


def with_own_cost(choices, tallies, width):
    """The tallies by sounds once more, with what the settings of these sounds cost themselves."""
    found = {}
    for choice in choices:
        tally = made_dearer(tallies[choice.sounds], choice.cost, width)
        found[choice.sounds] = found.get(choice.sounds, 0) + tally
    return found


def tallies_ahead(rules, choices, basses, tallies, width):
    """By the sounds of these choices the ways on behind them, from the tallies of the next chord's sounds."""
    passage = Passage(rules, basses, tallies, width)
    found = {}
    for choice in choices:
        if choice.sounds not in found:
            found[choice.sounds] = passage.tally_from(choice.sounds)
    return found


class Ways:
    def __init__(self, rules, chords):
        self.rules = rules
        self.choices = [choices_of(rules, chord) for chord in chords]
        self.width = width_for([len(choices) for choices in self.choices])
        self.onward = self.tallies_onward(chords)
        whole = with_own_cost(self.choices[0], self.onward[0], self.width)
        self.numbers = by_cost(sum([whole[sounds] for sounds in whole]), self.width)

    def tallies_onward(self, chords):
        """For each chord how many ways there are on behind it, by the sounds of its settings."""
        behind_last = {}
        for choice in self.choices[-1]:
            behind_last[choice.sounds] = one_free_way(self.width)
        found = [behind_last]
        for at in range(len(chords) - 2, -1, -1):
            basses = (chords[at].bass[0], chords[at + 1].bass[0])
            tallies = with_own_cost(self.choices[at + 1], found[-1], self.width)
            found.append(tallies_ahead(self.rules, self.choices[at], basses, tallies, self.width))
        found.reverse()
        return found

    def how_many(self):
        return sum(self.numbers)

    def nth(self, n):
        """The cost of way number n, and its settings."""
        cost = 0
        while n >= self.numbers[cost]:
            n -= self.numbers[cost]
            cost += 1
        return (cost, self.settings_at(cost, n))

    def settings_at(self, cost, n):
        """The settings of number n among the ways of just this cost."""
        found = []
        here = NOWHERE
        for at in range(len(self.choices)):
            for choice in self.choices[at]:
                many = self.many_through(at, here, choice, cost)
                if n < many:
                    break
                n -= many
            found.append(choice.notes)
            cost -= self.price_to(here, choice)
            here = choice.sounds
        return found

    def many_through(self, at, here, choice, cost):
        """How many ways on from here, through this choice of chord at, cost just so much."""
        many = how_many_at(self.onward[at][choice.sounds], cost - self.price_to(here, choice), self.width)
        if many > 0 and here != NOWHERE and wrong_moves(self.rules, here, choice.sounds) != []:
            return 0
        return many

    def price_to(self, here, choice):
        if here == NOWHERE:
            return choice.cost
        return choice.cost + self.rules.move * semitones_moved(here, choice.sounds)
