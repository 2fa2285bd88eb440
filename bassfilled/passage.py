"""The passage from one chord to the next: how many ways there are on from a setting, without going each of them."""

from bassfilled.moves import ALTO, BASS, SOPRANO, TENOR, barred_apart, is_parallel, places_not_barred
from bassfilled.rules import HIGHEST_SOUND
from bassfilled.tallies import made_dearer


def rows_of(tallies):
    """For each two sounds of the soprano and the alto the tallies, by the tenor's sound."""
    rows = {}
    for there in tallies:
        upper = (there[SOPRANO], there[ALTO])
        if upper not in rows:
            rows[upper] = {}
        rows[upper][there[TENOR]] = tallies[there]
    return rows


class Passage:
    """The tallies are those of the next chord's settings, by their four sounds.

    Where a voice may go hangs on where it and its neighbours are; only parallels tie two voices' moves to one
    another. So a sum over the tenor's moves serves many settings, and what has been summed is kept.
    """

    def __init__(self, rules, basses, tallies, width):
        self.rules = rules
        self.basses = basses
        self.width = width
        self.rows = rows_of(tallies)
        self.places = [sorted(set([there[voice] for there in tallies])) for voice in range(BASS)]
        self.reaches = {}
        self.alto_rows = {}
        self.tenor_rows = {}
        self.tenors = {}

    def tally_from(self, here):
        # The bass goes where it goes: beyond the tenor's last place, no move of the others is right.
        if self.basses[1] > here[TENOR]:
            return 0
        altos = self.reach(ALTO, here[ALTO], here[TENOR], here[SOPRANO])
        total = 0
        for soprano in self.reach(SOPRANO, here[SOPRANO], here[ALTO], HIGHEST_SOUND):
            total += self.moved(self.sum_over_altos(here, soprano, altos), here[SOPRANO], soprano)
        return total

    def reach(self, voice, sound, lowest, highest):
        key = (voice, sound, lowest, highest)
        if key not in self.reaches:
            self.reaches[key] = self.places_for(voice, sound, lowest, highest)
        return self.reaches[key]

    def places_for(self, voice, sound, lowest, highest):
        """Where a voice may go: not too far, not beyond its neighbours, not in parallel with the bass."""
        low = max(lowest, sound - self.rules.leaps[voice])
        high = min(highest, sound + self.rules.leaps[voice])
        places = [place for place in self.places[voice] if low <= place <= high]
        return [place for place in places if not is_parallel(sound, self.basses[0], place, self.basses[1])]

    def moved(self, tally, sound, place):
        return made_dearer(tally, self.rules.move * abs(place - sound), self.width)

    def sum_over_altos(self, here, soprano, altos):
        row = self.alto_row(here, soprano)
        barred = barred_apart(here[SOPRANO], here[ALTO], soprano)
        return sum([row[alto] for alto in places_not_barred(barred, here[ALTO], soprano, altos)])

    def alto_row(self, here, soprano):
        """By the alto's place the sums over the tenor's moves, with the price of both."""
        barred = barred_apart(here[SOPRANO], here[TENOR], soprano)
        # All that these sums have of the soprano's sound is what it bars the tenor from.
        key = (here[ALTO], here[TENOR], soprano, barred)
        if key not in self.alto_rows:
            row = {}
            for alto in self.reach(ALTO, here[ALTO], here[TENOR], HIGHEST_SOUND):
                row[alto] = self.moved(self.sum_over_tenors(here, soprano, alto, barred), here[ALTO], alto)
            self.alto_rows[key] = row
        return self.alto_rows[key]

    def sum_over_tenors(self, here, soprano, alto, barred):
        row = self.tenor_row(here[TENOR], soprano, alto)
        tenors = places_not_barred(barred, here[TENOR], soprano, self.tenors_beside(here, alto))
        return sum([row[tenor] for tenor in tenors if tenor in row])

    def tenor_row(self, sound, soprano, alto):
        """By the tenor's place the tallies, with the price of its move."""
        key = (sound, soprano, alto)
        if key not in self.tenor_rows:
            tallies = self.rows.get((soprano, alto), {})
            row = {}
            for tenor in tallies:
                row[tenor] = self.moved(tallies[tenor], sound, tenor)
            self.tenor_rows[key] = row
        return self.tenor_rows[key]

    def tenors_beside(self, here, alto):
        """Where the tenor may go while the alto goes there."""
        key = (here[ALTO], here[TENOR], alto)
        if key not in self.tenors:
            places = self.reach(TENOR, here[TENOR], self.basses[0], here[ALTO])
            barred = barred_apart(here[ALTO], here[TENOR], alto)
            self.tenors[key] = places_not_barred(barred, here[TENOR], alto, places)
        return self.tenors[key]
