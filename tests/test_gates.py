import random

from someoneout.gates import gate_of, is_best, possible_of, sure_of
from tests.oracles import best_lots, covers_by_free, free_lots, gate_by_free, lots_of, size_by_words
from tests.support import (Case, EMPTY, LIMITS, ODD_THINGS, SAMPLES, SEAT, TRIO, drawn_houses, drawn_tellings,
                           wrong_tellings, wrong_wishes)


class Gates(Case):
    def test_all_words(self):
        dice = random.Random(43)
        for house in drawn_houses(43, 100):
            free = free_lots(house)
            size = size_by_words(house)
            for telling in drawn_tellings(dice, size):
                best = best_lots(free, telling)
                for wish in range(size):
                    self.exact(gate_of(house, telling, wish), gate_by_free(free, telling, wish))
                self.exact(sure_of(house, telling),
                           tuple(wish for wish in range(size) if all(wish in lot for lot in best)))
                self.exact(possible_of(house, telling),
                           tuple(wish for wish in range(size) if any(wish in lot for lot in best)))
                for lot in lots_of(size):
                    self.exact(is_best(house, telling, lot), lot in best)

    def test_gates_are_least_of_all_numbers(self):
        dice = random.Random(44)
        for house in drawn_houses(44, 40):
            free = free_lots(house)
            size = size_by_words(house)
            telling = tuple(dice.randrange(6) for _ in range(size))
            for wish in range(size):
                gates = [gate for gate in range(8) if not covers_by_free(
                    free, [other for other in range(size) if other != wish and telling[other] > gate], wish)]
                self.exact(gate_of(house, telling, wish), gates[0] if gates else None)

    def test_barred_forced_and_no_heir(self):
        house = ("limits", 4, (((0,), 0), ((1, 2), 1)))
        self.exact([gate_of(house, (9, 4, 6, 2), wish) for wish in range(4)], [None, 6, 4, 0])
        self.exact(sure_of(house, (9, 4, 6, 2)), (2, 3))
        self.exact(possible_of(house, (9, 4, 6, 2)), (2, 3))
        self.exact(possible_of(house, (9, 4, 4, 0)), (1, 2, 3))
        self.exact(sure_of(house, (9, 4, 4, 0)), ())

    def test_at_the_gate_and_beside_it(self):
        for worth, sure, possible in ((6, (1,), (1,)), (7, (), (0, 1)), (8, (0,), (0,))):
            self.exact(gate_of(SEAT[0], (worth, 7), 0), 7)
            self.exact(sure_of(SEAT[0], (worth, 7)), sure)
            self.exact(possible_of(SEAT[0], (worth, 7)), possible)

    def test_all_nought_and_all_equal(self):
        self.exact(sure_of(TRIO[0], (0, 0, 0)), ())
        self.exact(possible_of(TRIO[0], (0, 0, 0)), (0, 1, 2))
        self.exact(gate_of(TRIO[0], (0, 0, 0), 1), 0)
        self.exact(gate_of(TRIO[0], (5, 5, 5), 1), 5)
        self.exact(sure_of(LIMITS, (5,) * 6), (5,))
        self.exact(possible_of(LIMITS, (5,) * 6), (0, 1, 2, 3, 5))
        for lot in lots_of(3):
            self.exact(is_best(TRIO[0], (0, 0, 0), lot), len(lot) < 3)

    def test_without_wishes(self):
        for house in EMPTY:
            self.exact((sure_of(house, ()), possible_of(house, ()), is_best(house, (), ())), ((), (), True))
            self.not_usable("wish", gate_of, house, (), 0)
            self.not_usable("lot", is_best, house, (), (0,))

    def test_thirty_figures(self):
        big = 10 ** 30
        self.exact(gate_of(TRIO[0], (big, big - 1, big - 2), 0), big - 2)
        self.exact(gate_of(TRIO[0], (big, big - 1, big - 2), 2), big - 1)
        self.exact(is_best(TRIO[0], (big, big - 1, big - 2), (0, 2)), False)

    def test_wrong_parameters(self):
        for house in SAMPLES:
            size = size_by_words(house)
            for thing in wrong_tellings(size):
                self.not_usable("telling", gate_of, house, thing, None)
                self.not_usable("telling", sure_of, house, thing)
                self.not_usable("telling", possible_of, house, thing)
                self.not_usable("telling", is_best, house, thing, None)
            for thing in wrong_wishes(size):
                self.not_usable("wish", gate_of, house, (1,) * size, thing)
            for thing in ODD_THINGS + ((size,),):
                self.not_usable("lot", is_best, house, (1,) * size, thing)

    def test_by_name(self):
        self.exact(gate_of(wish=0, telling=(3, 5), house=SEAT[0]), 5)
        self.exact(is_best(lot=(1,), telling=(3, 5), house=SEAT[0]), True)
