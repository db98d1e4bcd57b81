import random

from someoneout.leasts import least_terms, ranks_by_terms, term_of, worth_by_terms
from tests.oracles import best_by_words, free_lots, lots_of, number_of_lot, sign_of, size_by_words, table_by_words
from tests.support import (Case, EMPTY, ODD_THINGS, SEAT, TIED, TRIO, drawn_houses, drawn_tellings, wrong_lots,
                           wrong_tellings)


def term_by_words(ranks, lot):
    return sum(sign_of(len(lot) - len(part)) * ranks[number_of_lot(part)]
               for part in (tuple(lot[at] for at in places) for places in lots_of(len(lot))))


def drawn_terms(dice, size, many):
    """Pairs in any sequence, lots more than once, terms of up to thirty figures."""
    pairs = []
    for _ in range(many):
        lot = tuple(sorted(dice.sample(range(size), dice.randrange(1, size + 1))))
        pairs.append((lot, dice.choice((0, 1, -1, dice.randrange(-9, 10), 10 ** 30 - 1, 1 - 10 ** 30))))
    return tuple(pairs)


class Terms(Case):
    def test_drawn_houses(self):
        dice = random.Random(116)
        for house in TIED + tuple(drawn_houses(116, 120)):
            size, ranks = size_by_words(house), table_by_words(house)[2]
            terms = {lot: term_by_words(ranks, lot) for lot in lots_of(size)}
            for lot, term in terms.items():
                self.exact(term_of(house, lot), term)
            pairs = tuple((lot, terms[lot]) for lot in sorted(terms) if terms[lot])
            self.exact(least_terms(house), pairs)
            self.exact(ranks_by_terms(size, pairs), ranks)
            free = free_lots(house)
            for telling in drawn_tellings(dice, size, 1):
                self.exact(worth_by_terms(pairs, telling), best_by_words(free, telling))

    def test_edges(self):
        for house in EMPTY:
            self.exact((term_of(house, ()), least_terms(house)), (0, ()))
        self.exact((term_of(TRIO[0], ()), term_of(TRIO[0], (1,)), term_of(TRIO[0], (0, 1, 2))), (0, 1, -1))
        self.exact((ranks_by_terms(0, ()), ranks_by_terms(3, ()), worth_by_terms((), ())), ((0,), (0,) * 8, 0))
        self.exact(worth_by_terms((), (1, 2)), 0)

    def test_drawn_terms(self):
        dice = random.Random(117)
        for size, many in ((1, 3), (2, 8), (4, 30), (7, 100), (8, 300), (8, 299)):
            terms = drawn_terms(dice, size, many)
            lots = sorted(lots_of(size), key=number_of_lot)
            totals = tuple(sum(term for lot, term in terms if set(lot) <= set(other)) for other in lots)
            self.exact(ranks_by_terms(size, terms), totals)
            self.exact(ranks_by_terms(size, terms[::-1]), totals)
            telling = tuple(dice.choice((0, 5, 10 ** 30)) for _ in range(size))
            worth = sum(term * min(telling[wish] for wish in lot) for lot, term in terms)
            self.exact(worth_by_terms(terms, telling), worth)
            self.exact(worth_by_terms(terms + terms, telling), 2 * worth)

    def test_wrong_lots(self):
        for thing in wrong_lots(3):
            self.not_usable("lot", term_of, TRIO[0], thing)

    def test_wrong_terms(self):
        good = ((0, 1), 3)
        for thing in ODD_THINGS + (list(good), (good, ((), 1)), (good, ((3,), 1)), [good]):
            self.not_usable("terms", ranks_by_terms, 3, thing)
        for lot in wrong_lots(3) + ((),):
            self.not_usable("terms", ranks_by_terms, 3, (good, (lot, 1)))
        for term in (True, False, None, "1", (1,), [1], ()):
            self.not_usable("terms", ranks_by_terms, 3, (good, ((0,), term)))
        for pair in (((0,), 1, 1), ((0,),), [(0,), 1], ()):
            self.not_usable("terms", ranks_by_terms, 3, (pair, good))

    def test_wrong_tellings(self):
        terms = (((0, 2), 1), ((1,), -1))
        for thing in wrong_tellings(3):
            if thing not in ((1, 1, 1, 1),):
                self.not_usable("telling", worth_by_terms, terms, thing)
        self.not_usable("telling", worth_by_terms, terms, (1, 2))
        self.not_usable("telling", worth_by_terms, terms, (1, 2, 3, -1))
        self.not_usable("telling", worth_by_terms, (), [])
        self.not_usable("telling", worth_by_terms, (), (True,))
        self.exact(worth_by_terms(terms, (4, 1, 2, 0)), 1)

    def test_by_name(self):
        self.exact((term_of(lot=(0, 1), house=SEAT[0]), least_terms(house=("limits", 1, ()))), (-1, (((0,), 1),)))
        self.exact(ranks_by_terms(terms=(((0,), 1), ((1,), 1), ((0, 1), -1)), size=2), (0, 1, 1, 1))
        self.exact(worth_by_terms(telling=(5, 3), terms=(((0, 1), 2),)), 6)
