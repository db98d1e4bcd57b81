from someoneout.takings import piece_numbers, taken_apart
from tests.oracles import (kept_ranks, left_ranks, pieces_by_ranks, signed_by_words, size_by_words, table_by_words)
from tests.support import Case, EMPTY, PAIRS, SAMPLES, TIED, TRIO, drawn_houses, wrong_wishes


class Takings(Case):
    def test_drawn_houses(self):
        for house in TIED + tuple(drawn_houses(111, 150)):
            ranks = table_by_words(house)[2]
            size = size_by_words(house)
            for wish in range(size):
                rest = [other for other in range(size) if other != wish]
                if ranks[1 << wish] == 0:
                    self.not_usable("wish", taken_apart, house, wish)
                    continue
                refused = abs(signed_by_words(kept_ranks(ranks, rest)))
                promised = abs(signed_by_words(left_ranks(ranks, (wish,), rest)))
                self.exact(taken_apart(house, wish), (refused, promised))
            pieces = pieces_by_ranks(ranks)
            numbers = tuple((piece, abs(signed_by_words(kept_ranks(ranks, piece)))) for piece in pieces)
            self.exact(piece_numbers(house), numbers)

    def test_edges(self):
        self.exact(taken_apart(("limits", 1, ()), 0), (0, 0))
        self.exact(taken_apart(TRIO[0], 0), (0, 1))
        self.exact(piece_numbers(PAIRS[0]), (((0, 1), 1), ((2, 3), 1)))
        self.exact(piece_numbers(("limits", 3, (((1,), 0),))), (((0,), 1), ((1,), 0), ((2,), 1)))
        for house in EMPTY:
            self.exact(piece_numbers(house), ())
            self.not_usable("wish", taken_apart, house, 0)

    def test_wrong_wishes(self):
        for house in SAMPLES:
            for thing in wrong_wishes(size_by_words(house)):
                self.not_usable("wish", taken_apart, house, thing)

    def test_by_name(self):
        self.exact((taken_apart(wish=0, house=TRIO[0]), piece_numbers(house=TRIO[0])), ((0, 1), (((0, 1, 2), 1),)))
