import random

from someoneout.worthchanges import change_of, put_worth, worth_line, worth_with, worth_without
from tests.oracles import free_lots, gate_by_free, granted_by_words, lots_of, size_by_words, worth_by_words
from tests.support import (Case, EMPTY, ODD_THINGS, SAMPLES, SEAT, TRIO, drawn_houses, drawn_tellings,
                           wrong_tellings, wrong_wishes)

WRONG_WORTHS = (True, False, None, -1, "1", "", (), (1,), [1])
BIG = 10 ** 30


def replaced(telling, wish, worth):
    return tuple(worth if at == wish else old for at, old in enumerate(telling))


class Changes(Case):
    def test_put_worth(self):
        for telling in ((3,), (3, 5), (0, BIG, 7)):
            for wish in range(len(telling)):
                for worth in (0, 3, BIG):
                    self.exact(put_worth(telling, wish, worth), replaced(telling, wish, worth))
        self.exact(put_worth(tuple(range(40)), 39, 1), tuple(range(39)) + (1,))
        self.exact(put_worth(worth=1, wish=39, telling=(0,) * 40), (0,) * 39 + (1,))

    def test_put_worth_refuses(self):
        for thing in wrong_wishes(2):
            self.not_usable("wish", put_worth, (3, 5), thing, None)
        self.not_usable("wish", put_worth, (), 0, 1)
        self.not_usable("wish", put_worth, (0,) * 40, 40, 1)
        for thing in WRONG_WORTHS:
            self.not_usable("worth", put_worth, (3, 5), 1, thing)

    def test_all_words(self):
        dice = random.Random(45)
        for house in drawn_houses(45, 80):
            free = free_lots(house)
            size = size_by_words(house)
            for telling in drawn_tellings(dice, size, 1):
                before = granted_by_words(free, telling)
                for wish in range(size):
                    worth = dice.choice((0, 1, 2, 3, 5, 6, BIG))
                    after = granted_by_words(free, replaced(telling, wish, worth))
                    gone = tuple(other for other in before if other not in after)
                    come = tuple(other for other in after if other not in before)
                    self.exact(change_of(house, telling, wish, worth), (gone, come))
                    nothing = replaced(telling, wish, 0)
                    least = max(worth_by_words(nothing, lot) for lot in free)
                    self.exact(worth_line(house, telling, wish), (least, gate_by_free(free, telling, wish)))

    def test_with_and_without_lots(self):
        dice = random.Random(46)
        for house in drawn_houses(46, 60):
            free = free_lots(house)
            size = size_by_words(house)
            for telling in drawn_tellings(dice, size, 1):
                for lot in lots_of(size):
                    rest = [other for other in free if not set(other) & set(lot)]
                    self.exact(worth_without(house, telling, lot), max(worth_by_words(telling, one) for one in rest))
                    around = [other for other in free if set(lot) <= set(other)]
                    if around:
                        wanted = max(worth_by_words(telling, one) for one in around)
                        self.exact(worth_with(house, telling, lot), wanted)
                    else:
                        self.not_usable("lot", worth_with, house, telling, lot)

    def test_edges(self):
        self.exact(change_of(SEAT[0], (3, 5), 0, 4), ((), ()))
        self.exact(change_of(SEAT[0], (3, 5), 0, 6), ((1,), (0,)))
        self.exact(change_of(SEAT[0], (3, 5), 1, 3), ((1,), (0,)))
        self.exact(change_of(SEAT[0], (3, 5), 1, 4), ((), ()))
        self.exact(worth_without(TRIO[0], (1, 3, 1), ()), 4)
        self.exact(worth_without(TRIO[0], (1, 3, 1), (0, 1, 2)), 0)
        self.exact(worth_with(TRIO[0], (1, 3, 1), ()), 4)
        self.exact(worth_line(("limits", 1, (((0,), 0),)), (7,), 0), (0, None))
        self.exact(worth_line(("limits", 1, ()), (7,), 0), (0, 0))
        for house in EMPTY:
            self.exact((worth_without(house, (), ()), worth_with(house, (), ())), (0, 0))

    def test_wrong_tellings(self):
        for house in SAMPLES:
            for thing in wrong_tellings(size_by_words(house)):
                self.not_usable("telling", change_of, house, thing, None, None)
                self.not_usable("telling", worth_line, house, thing, None)
                self.not_usable("telling", worth_without, house, thing, None)
                self.not_usable("telling", worth_with, house, thing, None)

    def test_wrong_wishes_worths_and_lots(self):
        for house in SAMPLES:
            size = size_by_words(house)
            good = (1,) * size
            for thing in wrong_wishes(size):
                self.not_usable("wish", change_of, house, good, thing, None)
                self.not_usable("wish", worth_line, house, good, thing)
            for thing in WRONG_WORTHS:
                self.not_usable("worth", change_of, house, good, 0, thing)
            for thing in ODD_THINGS + ((size,),):
                self.not_usable("lot", worth_without, house, good, thing)
                self.not_usable("lot", worth_with, house, good, thing)
        self.not_usable("lot", worth_with, TRIO[0], (1, 3, 1), (0, 1, 2))
        self.not_usable("lot", worth_with, ("limits", 1, (((0,), 0),)), (1,), (0,))

    def test_by_name(self):
        self.exact(change_of(worth=5, wish=0, telling=(3, 5), house=SEAT[0]), ((1,), (0,)))
        self.exact(worth_with(lot=(0,), telling=(3, 5), house=SEAT[0]), 3)
        self.exact(worth_without(lot=(1,), telling=(3, 5), house=SEAT[0]), 3)
