import random

from someoneout.bestpapers import best_paper, lets_best
from someoneout.errors import InvalidPaper
from tests.oracles import best_lots, free_lots, granted_by_words, lots_of, rank_by_free, size_by_words, worth_by_words
from tests.support import (Case, EMPTY, LIMITS, ODD_THINGS, SAMPLES, SEAT, TRIO, drawn_houses, drawn_tellings,
                           wrong_tellings)


def ranks_of_layers(free, telling):
    heights = sorted({worth for worth in telling if worth > 0})
    return tuple(rank_by_free(free, [wish for wish, worth in enumerate(telling) if worth >= height])
                 for height in heights)


class Papers(Case):
    def test_all_words(self):
        dice = random.Random(42)
        for house in drawn_houses(42, 80):
            free = free_lots(house)
            for telling in drawn_tellings(dice, size_by_words(house), 1):
                ranks = ranks_of_layers(free, telling)
                self.exact(best_paper(house, telling), (granted_by_words(free, telling), ranks))
                best = best_lots(free, telling)
                for lot in lots_of(size_by_words(house)):
                    if lot in best:
                        self.exact(lets_best(house, telling, (lot, ranks)), worth_by_words(telling, lot))
                    else:
                        self.assertRaises(InvalidPaper, lets_best, house, telling, (lot, ranks))

    def test_lots_that_are_no_bases(self):
        self.exact(lets_best(TRIO[0], (0, 4, 0), ((1,), (1,))), 4)
        self.exact(lets_best(TRIO[0], (0, 0, 0), ((), ())), 0)
        self.exact(lets_best(TRIO[0], (0, 0, 0), ((0, 2), ())), 0)
        self.exact(lets_best(LIMITS, (0, 0, 0, 0, 9, 0), ((), (0,))), 0)

    def test_without_wishes(self):
        for house in EMPTY:
            self.exact(best_paper(house, ()), ((), ()))
            self.exact(lets_best(house, (), ((), ())), 0)

    def test_thirty_figures(self):
        big = 10 ** 30
        self.exact(lets_best(SEAT[0], (big, big), ((1,), (1,))), big)
        self.refused(InvalidPaper, {"word": "few", "at": 1}, lets_best, SEAT[0], (big, big - 1), ((1,), (1, 1)))


class Refused(Case):
    TELLING = (1, 3, 1)

    def wrong(self, word, at, thing, telling=TELLING):
        self.refused(InvalidPaper, {"word": word, "at": at}, lets_best, TRIO[0], telling, thing)

    def test_shape(self):
        for thing in ODD_THINGS + ((), ((0, 1),), ((0, 1), (2, 1), 0), [(0, 1), (2, 1)]):
            if thing not in ((0, 0), (1, 0), (0, (1,))):
                self.wrong("shape", -1, thing)

    def test_lot(self):
        for thing in ODD_THINGS + ((3,), (0, 1, 2), [0, 1], (False, 1), (0, True)):
            self.wrong("lot", -1, (thing, None))
        self.wrong("lot", -1, (0, (1,)))

    def test_ranks(self):
        for thing in (None, True, 2, "21", [2, 1], (), (2,), (2, 1, 0), ((2, 1),)):
            self.wrong("ranks", -1, ((0, 1), thing))
            self.wrong("ranks", -1, ((), thing))
        self.wrong("ranks", -1, ((), (0,)), (0, 0, 0))

    def test_layer_by_layer(self):
        for thing in (1, 3, True, None, "2", (2,), [2]):
            self.wrong("rank", 0, ((0, 1), (thing, None)))
        for thing in (0, 2, True, False, None, "1", (1,)):
            self.wrong("rank", 1, ((0, 1), (2, thing)))
        self.wrong("few", 0, ((1,), (2, None)))
        self.wrong("few", 0, ((), (2, 1)))
        self.wrong("few", 1, ((0, 2), (2, 1)))
        # The rank goes before the wishes of its own layer, and behind those of the layers before it.
        self.wrong("rank", 1, ((0, 2), (2, 2)))
        self.wrong("few", 0, ((0,), (2, 2)))
        self.wrong("rank", 0, ((0,), (1, 1)))

    def test_parameters_first(self):
        for house in SAMPLES:
            for thing in wrong_tellings(size_by_words(house)):
                self.not_usable("telling", best_paper, house, thing)
                self.not_usable("telling", lets_best, house, thing, None)

    def test_by_name(self):
        paper = best_paper(telling=self.TELLING, house=TRIO[0])
        self.exact(lets_best(thing=paper, telling=self.TELLING, house=TRIO[0]), 4)
