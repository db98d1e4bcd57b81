from someoneout.ranks import is_free, rank_of, rank_table
from tests.oracles import free_lots, lots_of, number_of_lot, rank_by_free, size_by_words
from tests.support import Case, EMPTY, LIMITS, ODD_THINGS, SAMPLES, random_houses


class Ranks(Case):
    def agrees(self, house):
        free = free_lots(house)
        ranks = rank_table(house)
        self.assertIsInstance(ranks, tuple)
        self.assertEqual(len(ranks), 2 ** size_by_words(house))
        for lot in lots_of(size_by_words(house)):
            wanted = rank_by_free(free, lot)
            self.exact(rank_of(house, lot), wanted)
            self.exact(ranks[number_of_lot(lot)], wanted)
            self.exact(is_free(house, lot), lot in free)

    def test_all_words(self):
        for house in SAMPLES + EMPTY:
            self.agrees(house)
        for house in random_houses(3, 250):
            self.agrees(house)

    def test_all_primes(self):
        for prime in (2, 3, 5, 7):
            self.agrees(("rows", prime, ((1, prime - 1), (prime - 1, 1), (1, 1), (0, 0))))
            self.agrees(("rows", prime, ((1, 1, 0), (0, 1, 1), (1, 0, 1), (1, 2 % prime, 1))))
        self.exact(rank_of(("rows", 2, ((), ())), (0, 1)), 0)

    def test_caps_at_the_edges(self):
        self.agrees(("limits", 3, (((0, 1, 2), 0),)))
        self.agrees(("limits", 3, (((0, 1, 2), 10 ** 30),)))
        self.agrees(("limits", 4, (((0, 1, 2, 3), 9), ((0, 1), 1), ((1,), 0), ((2, 3), 2))))

    def test_seats_that_are_moved(self):
        self.agrees(("slots", 4, ((0,), (0, 1), (1, 2), (2, 3), (0, 1, 2, 3))))

    def test_many_limits(self):
        house = ("limits", 40, tuple(((wish,), 1) for wish in range(20)) + ((tuple(range(40)), 30),))
        self.exact(rank_of(house, tuple(range(40))), 30)
        self.exact(rank_of(house, tuple(range(10, 35))), 25)

    def test_a_table_of_size_12(self):
        ranks = tuple(min(bin(number).count("1"), 4) for number in range(4096))
        self.exact(rank_table(("table", 12, ranks)), ranks)
        self.exact(rank_table(("limits", 12, ((tuple(range(12)), 4),))), ranks)

    def test_wrong_lots(self):
        for house in SAMPLES:
            for thing in ODD_THINGS + ((size_by_words(house),),):
                self.not_usable("lot", rank_of, house, thing)
                self.not_usable("lot", is_free, house, thing)
        for house in EMPTY:
            self.not_usable("lot", rank_of, house, (0,))

    def test_by_name_and_again(self):
        self.exact(rank_of(lot=(0, 1, 2), house=LIMITS), 2)
        self.exact(is_free(lot=(0, 1), house=LIMITS), False)
        self.exact(rank_table(house=LIMITS), rank_table(LIMITS))
