from someoneout.errors import InvalidPaper
from someoneout.ringpapers import lets_ring, ring_in
from tests.oracles import free_lots, lots_of, rings_by_free, size_by_words
from tests.support import Case, EMPTY, ODD_THINGS, SAMPLES, WEB, drawn_houses


class Rings(Case):
    def test_all_words(self):
        for house in drawn_houses(50, 100):
            size = size_by_words(house)
            free = free_lots(house)
            rings = rings_by_free(size, free)
            for lot in lots_of(size):
                ring = ring_in(house, lot)
                if lot in free:
                    self.exact(ring, None)
                    continue
                self.assertIn(ring, rings)
                self.assertLessEqual(set(ring), set(lot))
                for other in rings:
                    if set(other) <= set(lot):
                        self.exact(lets_ring(house, lot, other), len(other))

    def test_accepts_just_the_rings(self):
        for house in drawn_houses(51, 30, 4):
            size = size_by_words(house)
            rings = rings_by_free(size, free_lots(house))
            for lot in lots_of(size):
                for thing in lots_of(size):
                    if thing in rings and set(thing) <= set(lot):
                        self.exact(lets_ring(house, lot, thing), len(thing))
                    else:
                        self.assertRaises(InvalidPaper, lets_ring, house, lot, thing)

    def test_edges(self):
        self.exact(ring_in(WEB, ()), None)
        self.exact(ring_in(("limits", 2, (((0,), 0),)), (0, 1)), (0,))
        self.exact(lets_ring(("limits", 2, (((0,), 0),)), (0, 1), (0,)), 1)
        self.exact(ring_in(("limits", 8, ((tuple(range(8)), 7),)), tuple(range(8))), tuple(range(8)))
        for house in EMPTY:
            self.exact(ring_in(house, ()), None)

    def test_wrong_lots(self):
        for house in SAMPLES + EMPTY:
            for thing in ODD_THINGS + ((size_by_words(house),),):
                self.not_usable("lot", ring_in, house, thing)
                self.not_usable("lot", lets_ring, house, thing, None)


class Refused(Case):
    HOUSE = ("limits", 5, (((0, 1, 2, 3), 2), ((4,), 0)))

    def wrong(self, word, at, lot, thing):
        self.refused(InvalidPaper, {"word": word, "at": at}, lets_ring, self.HOUSE, lot, thing)

    def test_shape(self):
        for thing in ODD_THINGS + ((5,), (0, 5), (0, 1, 1), [0, 1, 2], (0, True, 2), (False, 1, 2)):
            self.wrong("shape", -1, (), thing)
            self.wrong("shape", -1, (0, 1, 2, 3, 4), thing)

    def test_within_free_and_parts(self):
        self.wrong("within", -1, (), (0,))
        self.wrong("within", -1, (0, 1, 3), (0, 1, 2))
        self.wrong("within", -1, (0, 1), (0, 1, 2, 3))
        self.wrong("free", -1, (0, 1, 2, 3, 4), ())
        self.wrong("free", -1, (), ())
        self.wrong("free", -1, (0, 1, 2, 3, 4), (1, 3))
        self.wrong("part", 0, (0, 1, 2, 3, 4), (0, 1, 2, 3))
        self.wrong("part", 0, (0, 1, 2, 3, 4), (0, 4))
        self.wrong("part", 0, (0, 1, 2, 3, 4), (0, 1, 2, 4))

    def test_first_place_that_can_go(self):
        # In this web 0, 1 and 3 go round, and 2 hangs on to them.
        web = ("web", 4, ((0, 1), (1, 2), (2, 3), (0, 2)))
        self.exact(lets_ring(web, (0, 1, 2, 3), (0, 1, 3)), 3)
        self.refused(InvalidPaper, {"word": "part", "at": 2}, lets_ring, web, (0, 1, 2, 3), (0, 1, 2, 3))
        barred = ("limits", 4, (((0,), 0),))
        self.refused(InvalidPaper, {"word": "part", "at": 1}, lets_ring, barred, (0, 1, 2), (0, 1, 2))

    def test_by_name(self):
        self.exact(ring_in(lot=(0, 4), house=self.HOUSE), (4,))
        self.exact(lets_ring(thing=(4,), lot=(0, 4), house=self.HOUSE), 1)
