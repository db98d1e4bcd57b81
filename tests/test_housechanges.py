from itertools import permutations

from someoneout.families import house_by_lots
from someoneout.covers import barred_of, forced_of
from someoneout.housechanges import (as_table, kept_house, promised_house, refused_house, renamed_house,
                                     turned_house)
from someoneout.housechecker import is_house
from someoneout.houses import size_of
from tests.oracles import bases_by_free, free_lots, lots_of, number_of_lot, rank_by_free, size_by_words
from tests.support import Case, EMPTY, LIMITS, ODD_THINGS, SAMPLES, TABLE, TRIO, random_houses


def anew(wishes, lot):
    """The lot by the places of its wishes among these."""
    return tuple(wishes.index(wish) for wish in lot)


class Changes(Case):
    def table_by(self, house, size, free):
        """It is the very table of a house with these free lots."""
        ranks = tuple(rank_by_free(free, lot) for lot in sorted(lots_of(size), key=number_of_lot))
        self.exact(house, ("table", size, ranks))
        self.assertTrue(is_house(house))

    def agrees(self, house):
        size = size_by_words(house)
        free = free_lots(house)
        self.table_by(as_table(house), size, free)
        for lot in lots_of(size):
            others = tuple(wish for wish in range(size) if wish not in lot)
            self.table_by(kept_house(house, lot), len(lot), [anew(lot, one) for one in free if set(one) <= set(lot)])
            self.table_by(refused_house(house, lot), len(others),
                          [anew(others, one) for one in free if set(one) <= set(others)])
            if lot in free:
                left = [anew(others, tuple(sorted(set(one) - set(lot)))) for one in free if set(lot) <= set(one)]
                self.table_by(promised_house(house, lot), len(others), left)
            else:
                self.not_usable("lot", promised_house, house, lot)
        turned = {part for base in bases_by_free(free) for part in lots_of(size) if not set(part) & set(base)}
        self.table_by(turned_house(house), size, turned)

    def test_all_words(self):
        for house in SAMPLES + EMPTY:
            self.agrees(house)
        for house in random_houses(6, 80):
            self.agrees(house)

    def test_renamed(self):
        for house in (TABLE, TRIO[0], ("limits", 4, (((0, 1), 1), ((3,), 0))), ("web", 3, ((0, 0), (0, 1), (0, 1)))):
            free = free_lots(house)
            for order in permutations(range(size_of(house))):
                named = [tuple(sorted(order[wish] for wish in lot)) for lot in free]
                self.table_by(renamed_house(house, order), size_of(house), named)
        for house in EMPTY:
            self.exact(renamed_house(house, ()), ("table", 0, (0,)))

    def test_wrong_lots(self):
        for house in SAMPLES:
            for thing in ODD_THINGS + ((size_by_words(house),),):
                for function in (refused_house, promised_house, kept_house):
                    self.not_usable("lot", function, house, thing)

    def test_wrong_orders(self):
        for thing in (None, 0, (), (0, 1), (0, 1, 1), (0, 1, 3), (0, 1, 2, 3), [0, 1, 2], (False, 1, 2), (0, True, 2), "012"):
            self.not_usable("order", renamed_house, TRIO[0], thing)

    def test_a_list_of_lots_and_the_table(self):
        for house in SAMPLES + EMPTY + tuple(random_houses(7, 60)):
            self.exact(as_table(house), house_by_lots(size_of(house), tuple(free_lots(house))))

    def test_one_after_the_other(self):
        for house in SAMPLES + tuple(random_houses(8, 30, 4)):
            free = free_lots(house)
            size = size_of(house)
            for lot in lots_of(size):
                for wish in lot:
                    others = tuple(other for other in range(size) if other != wish)
                    rest = anew(others, tuple(other for other in lot if other != wish))
                    self.exact(refused_house(refused_house(house, (wish,)), rest), refused_house(house, lot))
                    if lot in free:
                        self.exact(promised_house(promised_house(house, (wish,)), rest), promised_house(house, lot))

    def test_turned(self):
        for house in SAMPLES + EMPTY + tuple(random_houses(9, 60)):
            turned = turned_house(house)
            self.exact(turned_house(turned), as_table(house))
            self.exact(forced_of(turned), barred_of(house))
            self.exact(barred_of(turned), forced_of(house))
            for lot in free_lots(house):
                self.exact(turned_house(promised_house(house, lot)), refused_house(turned, lot))

    def test_by_name_and_again(self):
        self.exact(kept_house(lot=(0, 1), house=LIMITS), ("table", 2, (0, 1, 1, 1)))
        self.exact(kept_house(LIMITS, ()), ("table", 0, (0,)))
        self.exact(refused_house(LIMITS, ()), as_table(LIMITS))
        self.exact(promised_house(LIMITS, ()), as_table(LIMITS))
        self.exact(turned_house(LIMITS), turned_house(LIMITS))
