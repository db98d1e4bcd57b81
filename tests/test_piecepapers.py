from itertools import permutations

from someoneout.errors import InvalidPaper
from someoneout.piecepapers import lets_parting
from tests.oracles import free_lots, lots_of, pieces_by_rings, rank_by_free, rings_by_free, size_by_words
from tests.support import Case, EMPTY, ODD_THINGS, drawn_houses


def partings_of(wishes):
    """All ways to part the wishes into lots, by any sequence of the first ones."""
    if not wishes:
        yield ()
        return
    first = wishes[0]
    for more in lots_of(len(wishes) - 1):
        lot = (first,) + tuple(wishes[1 + at] for at in more)
        for rest in partings_of(tuple(wish for wish in wishes if wish not in lot)):
            yield (lot,) + rest


class Partings(Case):
    def test_all_words(self):
        for house in drawn_houses(64, 60, 4):
            size = size_by_words(house)
            if size > 5:
                continue
            free = free_lots(house)
            pieces = pieces_by_rings(size, rings_by_free(size, free))
            for parting in partings_of(tuple(range(size))):
                ranks = sum(rank_by_free(free, lot) for lot in parting)
                together = all(any(set(piece) <= set(lot) for lot in parting) for piece in pieces)
                self.assertEqual(together, ranks == rank_by_free(free, range(size)))
                for thing in permutations(parting) if len(parting) < 4 else (parting, parting[::-1]):
                    if together:
                        self.exact(lets_parting(house, thing), len(thing))
                    else:
                        self.refused(InvalidPaper, {"word": "ranks", "at": -1}, lets_parting, house, thing)

    def test_without_wishes(self):
        for house in EMPTY:
            self.exact(lets_parting(house, ()), 0)
            self.refused(InvalidPaper, {"word": "lot", "at": 0}, lets_parting, house, ((),))
            self.refused(InvalidPaper, {"word": "lot", "at": 0}, lets_parting, house, ((0,),))


class Refused(Case):
    HOUSE = ("limits", 5, (((0, 1), 1), ((2, 3), 1), ((4,), 0)))

    def wrong(self, word, at, thing):
        self.refused(InvalidPaper, {"word": word, "at": at}, lets_parting, self.HOUSE, thing)

    def test_true_partings(self):
        for thing in (((0, 1), (2, 3), (4,)), ((4,), (2, 3), (0, 1)), ((0, 1, 2, 3), (4,)), ((2, 3, 4), (0, 1)),
                      ((0, 1, 2, 3, 4),), ((0, 1, 4), (2, 3))):
            self.exact(lets_parting(self.HOUSE, thing), len(thing))

    def test_shape(self):
        for thing in ODD_THINGS:
            if not isinstance(thing, tuple):
                self.wrong("shape", -1, thing)
        self.wrong("shape", -1, [(0, 1), (2, 3), (4,)])

    def test_lots(self):
        for thing in ODD_THINGS + ((), (5,), (0, 5), (1, 0), [0, 1], (0, True)):
            self.wrong("lot", 0, (thing,))
            self.wrong("lot", 0, (thing, thing))
            self.wrong("lot", 1, ((2, 3), thing, (2, 3)))

    def test_one_by_one(self):
        self.wrong("twice", 1, ((0, 1), (1, 2), (9,)))
        self.wrong("twice", 2, ((0, 1), (2, 3), (0, 1), None))
        self.wrong("twice", 3, ((4,), (0, 1), (2, 3), (4,)))
        self.wrong("lot", 1, ((0, 1), (1, 9), (0,)))

    def test_left_and_ranks(self):
        self.wrong("left", -1, ())
        self.wrong("left", -1, ((0, 1), (2, 3)))
        self.wrong("left", -1, ((0,), (1,), (2, 3)))
        self.wrong("ranks", -1, ((0,), (1,), (2, 3), (4,)))
        self.wrong("ranks", -1, ((0, 2), (1, 3, 4)))

    def test_by_name(self):
        self.exact(lets_parting(thing=((0, 1, 2, 3, 4),), house=self.HOUSE), 1)
