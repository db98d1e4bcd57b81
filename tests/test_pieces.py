from someoneout.errors import Apart
from someoneout.pieces import is_one_piece, piece_at, pieces_of, ring_through
from tests.oracles import free_lots, pieces_by_rings, rings_by_free, size_by_words
from tests.support import Case, EMPTY, LIMITS, PAIRS, SAMPLES, SEAT, TRIO, WEB, drawn_houses, wrong_wishes


class Pieces(Case):
    def test_all_words(self):
        for house in drawn_houses(62, 200):
            size = size_by_words(house)
            rings = rings_by_free(size, free_lots(house))
            pieces = pieces_by_rings(size, rings)
            self.exact(pieces_of(house), pieces)
            self.exact(is_one_piece(house), len(pieces) == 1)
            for one in range(size):
                piece = [lot for lot in pieces if one in lot][0]
                self.exact(piece_at(house, one), piece)
                for other in range(size):
                    if other == one:
                        self.not_usable("other", ring_through, house, one, other)
                    elif other not in piece:
                        self.refused(Apart, {"lot": piece}, ring_through, house, one, other)
                    else:
                        ring = ring_through(house, one, other)
                        self.assertIn(ring, rings)
                        self.assertTrue(one in ring and other in ring)
                        self.assertIsInstance(ring, tuple)

    def test_larger_houses(self):
        for house in drawn_houses(63, 25, 8):
            size = size_by_words(house)
            if size < 6:
                continue
            rings = rings_by_free(size, free_lots(house))
            pieces = pieces_by_rings(size, rings)
            self.exact(pieces_of(house), pieces)
            for piece in pieces:
                for one, other in zip(piece, piece[1:]):
                    self.assertIn(ring_through(house, one, other), rings)

    def test_barred_and_forced(self):
        house = ("limits", 5, (((0,), 0), ((1, 2), 1), ((3,), 4)))
        self.exact(pieces_of(house), ((0,), (1, 2), (3,), (4,)))
        self.exact(piece_at(house, 0), (0,))
        self.exact(piece_at(house, 4), (4,))
        self.refused(Apart, {"lot": (0,)}, ring_through, house, 0, 1)
        self.refused(Apart, {"lot": (4,)}, ring_through, house, 4, 3)
        for single in (("limits", 1, (((0,), 0),)), ("limits", 1, ())):
            self.exact((pieces_of(single), is_one_piece(single)), (((0,),), True))

    def test_tied_over_others(self):
        # A web of two rounds that share a way: 0 and 4 are in the ring around both.
        web = ("web", 4, ((0, 1), (1, 2), (0, 2), (2, 3), (0, 3)))
        self.exact(pieces_of(web), ((0, 1, 2, 3, 4),))
        self.exact(ring_through(web, 0, 4), (0, 1, 3, 4))
        self.exact(ring_through(web, 4, 1), (0, 1, 3, 4))
        # Two rounds that share just a point.
        web = ("web", 5, ((0, 1), (1, 2), (0, 2), (2, 3), (3, 4), (2, 4)))
        self.exact(pieces_of(web), ((0, 1, 2), (3, 4, 5)))

    def test_without_wishes(self):
        for house in EMPTY:
            self.exact((pieces_of(house), is_one_piece(house)), ((), False))
            self.not_usable("wish", piece_at, house, 0)
            self.not_usable("one", ring_through, house, 0, 1)

    def test_beside(self):
        house = ("beside", (SEAT[0], PAIRS[0]))
        self.exact(pieces_of(house), ((0, 1), (2, 3), (4, 5)))
        self.exact(ring_through(house, 5, 4), (4, 5))
        self.refused(Apart, {"lot": (2, 3)}, ring_through, house, 2, 5)

    def test_wrong_wishes(self):
        for house in SAMPLES:
            size = size_by_words(house)
            for thing in wrong_wishes(size):
                self.not_usable("wish", piece_at, house, thing)
                self.not_usable("one", ring_through, house, thing, None)
                self.not_usable("other", ring_through, house, 1, thing)
            self.not_usable("other", ring_through, house, 0, 0)
        # Refused before it is asked whether they are apart.
        self.not_usable("other", ring_through, LIMITS, 4, 6)
        self.not_usable("other", ring_through, TRIO[0], 1, True)

    def test_by_name(self):
        self.exact(piece_at(wish=5, house=WEB), (5,))
        self.exact(ring_through(other=0, one=2, house=TRIO[0]), (0, 1, 2))
