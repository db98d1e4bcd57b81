from someoneout.leavings import full_pieces, full_zones, stays
from tests.oracles import full_zones_by_words, is_full_by_words, pieces_by_ranks, table_by_words
from tests.support import Case, EMPTY, PAIRS, SEAT, TRIO, drawn_circles

LATE = (SEAT[0], 2, (0, 1), ((0, 4), (2, 6)))
APART = (SEAT[0], 2, (0, 1), ((0, 4), (4, 9)))


class Leavings(Case):
    def test_drawn_circles(self):
        staying = 0
        for circle in drawn_circles(101, 250):
            pieces = pieces_by_ranks(table_by_words(circle[0])[2])
            self.exact(full_pieces(circle), tuple(piece for piece in pieces if is_full_by_words(circle, piece)))
            pairs = full_zones_by_words(circle)
            self.exact(full_zones(circle), pairs)
            self.exact(stays(circle), len(pairs) == 0)
            staying += len(pairs) == 0
        self.assertTrue(50 < staying < 240, staying)

    def test_known_circles(self):
        self.exact((full_pieces(SEAT), full_zones(SEAT), stays(SEAT)), (((0, 1),), (((0, 4), (0, 1)),), False))
        self.exact((full_pieces(TRIO), full_zones(TRIO), stays(TRIO)), (((0, 1, 2),), (((0, 4), (0, 1, 2)),), False))
        self.exact((full_pieces(PAIRS), full_zones(PAIRS), stays(PAIRS)), ((), (), True))
        watch = (SEAT[0], 3, (0, 1), SEAT[3])
        self.exact((full_pieces(watch), full_zones(watch), stays(watch)), ((), (), True))

    def test_a_stretch_of_its_own(self):
        self.exact(full_zones(LATE), (((2, 4), (0, 1)),))
        self.exact(stays(LATE), False)
        self.exact((full_pieces(APART), full_zones(APART), stays(APART)), (((0, 1),), (), True))
        # The document's own words: with (4, 9) for the first person of SEAT it stays, too.
        other = (SEAT[0], 2, (0, 1), ((4, 9), (0, 4)))
        self.exact((full_pieces(other), stays(other)), (((0, 1),), True))

    def test_several_full_pieces(self):
        court = (("limits", 4, (((0, 3), 1), ((1, 2), 1))), 2, (0, 1, 0, 1), ((0, 4), (0, 2), (1, 6), (0, 9)))
        self.exact(full_pieces(court), ((0, 3), (1, 2)))
        self.exact(full_zones(court), (((0, 1), (0, 3)), ((1, 2), (0, 3)), ((1, 2), (1, 2)), ((2, 4), (0, 3))))

    def test_without_zones(self):
        for house in EMPTY:
            circle = (house, 2, (), ())
            self.exact((full_pieces(circle), full_zones(circle), stays(circle)), ((), (), True))
        level = (SEAT[0], 2, (0, 1), ((5, 5), (5, 5)))
        self.exact((full_pieces(level), full_zones(level), stays(level)), (((0, 1),), (), True))

    def test_ends_of_thirty_figures(self):
        big = 10 ** 30
        circle = (SEAT[0], 2, (0, 1), ((big - 2, big), (0, big - 1)))
        self.exact(full_zones(circle), (((big - 2, big - 1), (0, 1)),))

    def test_by_name(self):
        self.exact((full_pieces(circle=SEAT), full_zones(circle=SEAT), stays(circle=SEAT)),
                   (((0, 1),), (((0, 4), (0, 1)),), False))
