from someoneout.sums import number_in, number_of, signed_sum
from tests.oracles import kept_ranks, lots_of, signed_by_words, size_by_words, table_by_words
from tests.support import Case, EMPTY, PAIRS, TIED, TRIO, drawn_houses, wrong_lots


class Sums(Case):
    def test_drawn_houses(self):
        signs = set()
        for house in TIED + tuple(drawn_houses(110, 150)):
            ranks = table_by_words(house)[2]
            signed = signed_by_words(ranks)
            self.exact(signed_sum(house), signed)
            self.exact(number_of(house), abs(signed))
            for lot in lots_of(size_by_words(house)):
                self.exact(number_in(house, lot), abs(signed_by_words(kept_ranks(ranks, lot))))
            signs.add((signed > 0) - (signed < 0))
        self.assertEqual(signs, {-1, 0, 1})

    def test_edges(self):
        for house in EMPTY:
            self.exact((signed_sum(house), number_of(house), number_in(house, ())), (0, 0, 0))
        self.exact((signed_sum(("limits", 1, (((0,), 0),))), number_of(("limits", 1, (((0,), 0),)))), (0, 0))
        self.exact((signed_sum(("limits", 1, ())), number_of(("limits", 1, ()))), (-1, 1))
        self.exact(number_in(PAIRS[0], ()), 0)
        # In TRIO the single wishes give -3, the lots of two 6, all three -2.
        self.exact(signed_sum(TRIO[0]), -3 + 6 - 2)
        self.exact(number_of(("limits", 8, ((tuple(range(8)), 4),))), 20)

    def test_wrong_lots(self):
        for thing in wrong_lots(4):
            self.not_usable("lot", number_in, PAIRS[0], thing)

    def test_by_name(self):
        self.exact((signed_sum(house=TRIO[0]), number_of(house=TRIO[0]), number_in(lot=(0, 1), house=TRIO[0])), (1, 1, 0))
