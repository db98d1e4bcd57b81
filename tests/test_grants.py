import random

from someoneout.grants import best_worth, granted, layers_of, lot_worth
from tests.oracles import best_lots, free_lots, granted_by_words, lots_of, size_by_words, worth_by_words
from tests.support import (BESIDE, Case, EMPTY, LIMITS, ODD_THINGS, SAMPLES, SEAT, SLOTS, TRIO, drawn_houses,
                           drawn_tellings, wrong_tellings)

BIG = 10 ** 30


class Granted(Case):
    def test_all_words(self):
        dice = random.Random(40)
        for house in drawn_houses(40, 120):
            free = free_lots(house)
            for telling in drawn_tellings(dice, size_by_words(house)):
                lot = granted_by_words(free, telling)
                self.exact(granted(house, telling), lot)
                self.assertIn(lot, best_lots(free, telling))
                self.assertEqual(len(lot), max(len(other) for other in free))
                self.exact(best_worth(house, telling), worth_by_words(telling, best_lots(free, telling)[0]))

    def test_equal_worths_go_by_number(self):
        self.exact(granted(TRIO[0], (5, 5, 5)), (0, 1))
        self.exact(granted(TRIO[0], (0, 0, 0)), (0, 1))
        self.exact(granted(TRIO[0], (1, 2, 1)), (0, 1))
        self.exact(granted(TRIO[0], (1, 1, 2)), (0, 2))
        self.exact(granted(SEAT[0], (BIG - 1, BIG)), (1,))

    def test_wishes_worth_nothing_are_granted(self):
        self.exact(granted(LIMITS, (0, 0, 0, 0, 9, 0)), (0, 2, 5))
        self.exact(best_worth(LIMITS, (0, 0, 0, 0, 9, 0)), 0)
        self.exact(granted(("web", 3, ((0, 1), (0, 1), (1, 2))), (0, 7, 0)), (1, 2))

    def test_barred_and_forced(self):
        house = ("limits", 3, (((0,), 0), ((1, 2), 2)))
        self.exact(granted(house, (9, 0, 1)), (1, 2))
        self.exact(best_worth(house, (9, 0, 1)), 1)
        self.exact(granted(("slots", 2, ((), ())), (1, 2)), ())
        self.exact(best_worth(("slots", 2, ((), ())), (1, 2)), 0)

    def test_without_wishes(self):
        for house in EMPTY:
            self.exact(granted(house, ()), ())
            self.exact(best_worth(house, ()), 0)
            self.exact(layers_of(house, ()), ())

    def test_eight_wishes_of_thirty_figures(self):
        house = ("limits", 8, ((tuple(range(8)), 4), ((0, 1, 2), 1), ((5, 6), 1)))
        telling = tuple(BIG - wish for wish in range(8))
        self.exact(granted(house, telling), (0, 3, 4, 5))
        self.exact(best_worth(house, telling), 4 * BIG - 12)

    def test_wrong_tellings(self):
        for house in SAMPLES:
            for thing in wrong_tellings(size_by_words(house)):
                for function in (granted, best_worth, layers_of):
                    self.not_usable("telling", function, house, thing)
        for house in EMPTY:
            for thing in ODD_THINGS + ((0,), [], (0, 0)):
                for function in (granted, best_worth, layers_of):
                    self.not_usable("telling", function, house, thing)


class Worths(Case):
    def test_lot_worths(self):
        telling = (3, 0, BIG, 1)
        for lot in lots_of(4):
            self.exact(lot_worth(telling, lot), worth_by_words(telling, lot))
        self.exact(lot_worth((), ()), 0)
        self.exact(lot_worth(tuple(range(40)), tuple(range(40))), 780)
        self.exact(lot_worth((BIG,) * 40, tuple(range(0, 40, 2))), 20 * BIG)

    def test_wrong_lots(self):
        for thing in ODD_THINGS + ((2,), (0, 1, 2), ((0,),)):
            self.not_usable("lot", lot_worth, (5, 6), thing)
        self.not_usable("lot", lot_worth, (), (0,))
        self.not_usable("lot", lot_worth, (1,) * 40, (40,))


class Layers(Case):
    def test_all_layers(self):
        dice = random.Random(41)
        for house in drawn_houses(41, 40):
            for telling in drawn_tellings(dice, size_by_words(house)):
                wanted = tuple((height, tuple(wish for wish, worth in enumerate(telling) if worth >= height))
                               for height in sorted(set(telling)) if height > 0)
                self.exact(layers_of(house, telling), wanted)

    def test_edges(self):
        self.exact(layers_of(SLOTS, (0,) * 6), ())
        self.exact(layers_of(SLOTS, (4,) * 6), ((4, (0, 1, 2, 3, 4, 5)),))
        self.exact(layers_of(SEAT[0], (BIG, 1)), ((1, (0, 1)), (BIG, (0,))))
        # Barred wishes are in layers, too.
        self.exact(layers_of(("limits", 1, (((0,), 0),)), (2,)), ((2, (0,)),))

    def test_by_name(self):
        self.exact(granted(telling=(1, 2), house=SEAT[0]), (1,))
        self.exact(lot_worth(lot=(1,), telling=(1, 2)), 2)
        self.exact(granted(BESIDE, (1, 2, 3, 4, 5)), (1, 3, 4))
