import random

from someoneout.heirs import heir_of, heirs_of
from tests.oracles import free_lots, granted_by_words, size_by_words
from tests.support import (Case, EMPTY, LIMITS, SAMPLES, SEAT, TRIO, drawn_houses, drawn_tellings, wrong_tellings,
                           wrong_wishes)


def heir_by_words(free, telling, wish):
    """Who is granted in the house of the other wishes, but not in the whole one."""
    rest = [lot for lot in free if wish not in lot]
    come = set(granted_by_words(rest, telling)) - set(granted_by_words(free, telling))
    return min(come) if come else None


class Heirs(Case):
    def test_all_words(self):
        dice = random.Random(47)
        for house in drawn_houses(47, 100):
            free = free_lots(house)
            for telling in drawn_tellings(dice, size_by_words(house)):
                lot = granted_by_words(free, telling)
                wanted = tuple((wish, heir_by_words(free, telling, wish)) for wish in lot)
                self.exact(heirs_of(house, telling), wanted)
                for wish in range(len(telling)):
                    if wish in lot:
                        self.exact(heir_of(house, telling, wish), dict(wanted)[wish])
                    else:
                        self.not_usable("wish", heir_of, house, telling, wish)

    def test_edges(self):
        self.exact(heir_of(SEAT[0], (3, 3), 0), 1)
        self.exact(heirs_of(TRIO[0], (0, 0, 0)), ((0, 2), (1, 2)))
        self.exact(heirs_of(("limits", 3, (((0,), 0), ((1, 2), 2))), (9, 4, 2)), ((1, None), (2, None)))
        self.exact(heirs_of(LIMITS, (1, 2, 3, 4, 5, 6)), ((2, 1), (3, 1), (5, None)))
        self.exact(heirs_of(("web", 2, ((0, 1), (0, 1), (0, 1))), (10 ** 30, 10 ** 30, 7)), ((0, 1),))
        for house in EMPTY:
            self.exact(heirs_of(house, ()), ())
            self.not_usable("wish", heir_of, house, (), 0)

    def test_wrong_parameters(self):
        for house in SAMPLES:
            size = size_by_words(house)
            for thing in wrong_tellings(size):
                self.not_usable("telling", heir_of, house, thing, None)
                self.not_usable("telling", heirs_of, house, thing)
            for thing in wrong_wishes(size):
                self.not_usable("wish", heir_of, house, (1,) * size, thing)
        # Both wishes are granted: True is none of them, though it equals 1.
        self.not_usable("wish", heir_of, ("limits", 2, ()), (1, 1), True)
        self.not_usable("wish", heir_of, ("limits", 2, ()), (1, 1), False)

    def test_by_name(self):
        self.exact(heir_of(wish=1, telling=(3, 5), house=SEAT[0]), 0)
        self.exact(heirs_of(telling=(3, 5), house=SEAT[0]), ((1, 0),))
