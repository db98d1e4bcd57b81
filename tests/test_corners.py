import random

from someoneout.corners import corner_difference, level_difference
from tests.oracles import best_by_words, free_lots, lots_of, sign_of, size_by_words
from tests.support import Case, EMPTY, ODD_THINGS, SAMPLES, SEAT, TIED, TRIO, drawn_houses, drawn_tellings, wrong_tellings


def corner_by_words(free, here, there):
    size = len(here)
    return sum(sign_of(size - len(lot)) * best_by_words(free, [there[wish] if wish in lot else here[wish]
                                                               for wish in range(size)]) for lot in lots_of(size))


class Corners(Case):
    def test_drawn_houses(self):
        dice = random.Random(119)
        for house in TIED + tuple(drawn_houses(119, 60)):
            size, free = size_by_words(house), free_lots(house)
            tellings = list(drawn_tellings(dice, size, 1))
            for here in tellings:
                there = dice.choice(tellings)
                self.exact(corner_difference(house, here, there), corner_by_words(free, here, there))
            for low, high in ((0, 1), (3, 3), (5, 2), (0, 10 ** 30), (10 ** 30, 1)):
                self.exact(level_difference(house, low, high), corner_by_words(free, (low,) * size, (high,) * size))

    def test_edges(self):
        for house in EMPTY:
            self.exact((corner_difference(house, (), ()), level_difference(house, 1, 5)), (0, 0))
        self.exact(corner_difference(SEAT[0], (1, 3), (4, 2)), 3 - 4 - 2 + 4)
        self.exact((level_difference(TRIO[0], 1, 3), level_difference(TRIO[0], 3, 1)), (-2, 2))
        self.exact((level_difference(SEAT[0], 1, 3), level_difference(SEAT[0], 3, 1)), (-2, -2))

    def test_wrong_tellings(self):
        for house in SAMPLES:
            size = size_by_words(house)
            for thing in wrong_tellings(size):
                self.not_usable("here", corner_difference, house, thing, None)
                self.not_usable("there", corner_difference, house, (0,) * size, thing)

    def test_wrong_numbers(self):
        for thing in ODD_THINGS:
            if thing != 10 ** 59:
                self.not_usable("low", level_difference, SEAT[0], thing, None)
                self.not_usable("high", level_difference, SEAT[0], 1, thing)

    def test_by_name(self):
        self.exact(corner_difference(there=(4, 2), here=(1, 3), house=SEAT[0]), 1)
        self.exact(level_difference(high=3, low=1, house=TRIO[0]), -2)
