from itertools import combinations

from someoneout.carving import carved, lets_carving
from someoneout.errors import Apart, InvalidPaper
from tests.oracles import is_free_by_words, left_ranks, lots_of, pieces_by_ranks, size_by_words, table_by_words
from tests.support import BESIDE, Case, EMPTY, ODD_THINGS, PAIRS, TIED, TRIO, drawn_houses, wrong_lots


def carvings_of(house, lot):
    """All pairs of promised and refused lots with each wish outside the lot once, and whether each is a carving."""
    ranks = table_by_words(house)[2]
    others = [wish for wish in range(size_by_words(house)) if wish not in lot]
    for many in range(len(others) + 1):
        for promised in combinations(others, many):
            refused = tuple(wish for wish in others if wish not in promised)
            free = is_free_by_words(house, promised)
            whole = free and len(pieces_by_ranks(left_ranks(ranks, promised, lot))) == 1
            yield (promised, refused), free, whole


class Carvings(Case):
    def agrees(self, house, lot):
        true = []
        for paper, free, whole in carvings_of(house, lot):
            if whole:
                self.exact(lets_carving(house, lot, paper), len(paper[0]))
                true.append(paper)
            else:
                self.wrong_paper("apart" if free else "free", -1, lets_carving, house, lot, paper)
        return true

    def test_drawn_houses(self):
        for house in drawn_houses(107, 60, 4):
            pieces = pieces_by_ranks(table_by_words(house)[2])
            for lot in lots_of(size_by_words(house))[1:]:
                true = self.agrees(house, lot)
                if len(pieces) == 1:
                    self.assertIn(repr(carved(house, lot)), [repr(paper) for paper in true])
                else:
                    self.refused(Apart, {"lot": pieces[0]}, carved, house, lot)

    def test_houses_in_one_piece(self):
        for house in TIED[:-2]:
            for lot in lots_of(size_by_words(house))[1:]:
                self.assertIn(repr(carved(house, lot)), [repr(paper) for paper in self.agrees(house, lot)])

    def test_one_wish(self):
        for cap in (0, 1, 2):
            house = ("limits", 1, (((0,), cap),))
            self.exact(carved(house, (0,)), ((), ()))
            self.exact(lets_carving(house, (0,), ((), ())), 0)

    def test_houses_in_several_pieces(self):
        self.refused(Apart, {"lot": (0, 1)}, carved, PAIRS[0], (2, 3))
        self.exact(lets_carving(PAIRS[0], (2, 3), ((0,), (1,))), 1)
        self.exact(lets_carving(PAIRS[0], (2, 3), ((), (0, 1))), 0)
        self.refused(Apart, {"lot": (0,)}, carved, ("limits", 3, (((0,), 0),)), (1,))

    def test_wrong_lots(self):
        for house in (TRIO[0], BESIDE):
            for thing in wrong_lots(size_by_words(house)) + ((),):
                self.not_usable("lot", carved, house, thing)
                self.not_usable("lot", lets_carving, house, thing, None)
        for house in EMPTY:
            for thing in ((), (0,), None):
                self.not_usable("lot", carved, house, thing)
                self.not_usable("lot", lets_carving, house, thing, ((), ()))

    def test_by_name(self):
        self.exact(carved(lot=(0, 2), house=TRIO[0]), ((1,), ()))
        self.exact(lets_carving(thing=((1,), ()), lot=(0, 2), house=TRIO[0]), 1)


class Refused(Case):
    # Wish 3 is barred, wishes 4 and 5 are twins beside the rest.
    HOUSE = ("limits", 6, (((0, 1, 2), 2), ((3,), 0), ((4, 5), 1)))

    def wrong(self, word, thing, lot=(0, 1)):
        self.wrong_paper(word, -1, lets_carving, self.HOUSE, lot, thing)

    def test_shape(self):
        for thing in ODD_THINGS + ((), ((), (), ()), [(2, 4), (3, 5)]):
            if thing != ((), ()):
                self.wrong("shape", thing)
        for lot in wrong_lots(6):
            self.wrong("shape", (lot, (3, 4, 5)))
            self.wrong("shape", ((2,), lot))

    def test_parts(self):
        for thing in (((), ()), ((2,), (3, 4)), ((2,), (2, 3, 4, 5)), ((0, 2), (3, 4, 5)), ((2, 3), (3, 4, 5)),
                      ((0, 2), (1, 3, 4, 5)), ((2, 4), (0, 3, 5))):
            self.wrong("parts", thing)

    def test_free_and_apart(self):
        self.wrong("free", ((2, 3), (4, 5)))
        self.wrong("free", ((2, 4, 5), (3,)))
        self.wrong("free", ((3, 4), (2, 5)))
        self.wrong("apart", ((), (2, 3, 4, 5)))
        self.wrong("apart", ((4,), (2, 3, 5)))
        self.exact(lets_carving(self.HOUSE, (0, 1), ((2,), (3, 4, 5))), 1)
        self.exact(lets_carving(self.HOUSE, (0, 1), ((2, 5), (3, 4))), 2)
        self.wrong("apart", ((2,), (4, 5)), (0, 1, 3))
        self.exact(lets_carving(self.HOUSE, (3,), ((0, 1, 4), (2, 5))), 3)

    def test_in_sequence(self):
        self.wrong("parts", ((3,), (0,)))
        self.assertRaises(InvalidPaper, lets_carving, self.HOUSE, (0, 1), None)
