from someoneout.covers import all_bases, barred_of, covered_by, forced_of
from tests.oracles import bases_by_free, free_lots, lots_of, rank_by_free, size_by_words
from tests.support import Case, EMPTY, ODD_THINGS, SAMPLES, random_houses


class Covers(Case):
    def agrees(self, house):
        free = free_lots(house)
        size = size_by_words(house)
        bases = bases_by_free(free)
        for lot in lots_of(size):
            covered = tuple(wish for wish in range(size)
                            if rank_by_free(free, set(lot) | {wish}) == rank_by_free(free, lot))
            self.exact(covered_by(house, lot), covered)
        self.exact(barred_of(house), tuple(wish for wish in range(size) if (wish,) not in free))
        self.exact(forced_of(house), tuple(wish for wish in range(size) if all(wish in base for base in bases)))
        self.exact(all_bases(house), tuple(sorted(bases)))

    def test_all_words(self):
        for house in SAMPLES + EMPTY:
            self.agrees(house)
        for house in random_houses(4, 120):
            self.agrees(house)

    def test_barred_and_forced(self):
        house = ("limits", 4, (((0,), 0), ((1, 2), 1)))
        self.exact(barred_of(house), (0,))
        self.exact(forced_of(house), (3,))
        self.exact(all_bases(house), ((1, 3), (2, 3)))
        self.exact(covered_by(house, ()), (0,))
        self.exact(covered_by(house, (1,)), (0, 1, 2))

    def test_no_wishes_and_all_barred(self):
        for house in EMPTY + (("limits", 2, (((0, 1), 0),)), ("slots", 2, ((), ())), ("web", 1, ((0, 0),))):
            self.exact(all_bases(house), ((),))
            self.exact(forced_of(house), ())
        self.exact(barred_of(("rows", 5, ((), ()))), (0, 1))

    def test_wrong_lots(self):
        for house in SAMPLES:
            for thing in ODD_THINGS + ((size_by_words(house),),):
                self.not_usable("lot", covered_by, house, thing)

    def test_eight_wishes(self):
        house = ("limits", 8, ((tuple(range(8)), 4),))
        self.assertEqual(len(all_bases(house)), 70)
        self.exact(all_bases(house)[0], (0, 1, 2, 3))
        self.exact(forced_of(house), ())
