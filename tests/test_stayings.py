from someoneout.errors import Full
from someoneout.rulespans import nobody_worse, till_ends
from someoneout.stayings import stay_tables
from someoneout.tables import is_tables
from tests.oracles import (board_by_words, dues_by_words, full_zones_by_words, is_full_by_words, pieces_by_words,
                           places_by_words, tills_by_words)
from tests.support import Case, EMPTY, PAIRS, SEAT, TRIO, drawn_circles, single_circles

APART = (SEAT[0], 2, (0, 1), ((0, 4), (4, 9)))


class Stayings(Case):
    def judged(self, circle):
        """Whether it stays by tables whose tills are all 0 and whose dues are nowhere above the worth."""
        full = full_zones_by_words(circle)
        if full:
            self.refused(Full, {"zone": full[0][0], "lot": full[0][1]}, stay_tables, circle)
            return False
        tables = stay_tables(circle)
        board = board_by_words(circle)
        self.assertIs(tables.__class__, tuple)
        self.exact(is_tables(board, tables), True)
        self.assertEqual(set(tills_by_words(board, tables)), {0})
        for place, worth in zip(places_by_words(board[0]), board[1]):
            self.assertLessEqual(max(dues_by_words(board, tables, place)), worth)
        return True

    def test_drawn_circles(self):
        many = [0, 0, 0]
        for ends in ((0, 3, 8), (0, 3, 4), (2, 10 ** 30), (0, 1), (1, 2, 5, 9)):
            for circle in drawn_circles(213, 60, 5, ends):
                if len(board_by_words(circle)[1]) <= 81:
                    stays = self.judged(circle)
                    many[stays] += 1
                    # These stay by their zones alone.
                    many[2] += stays and any(is_full_by_words(circle, piece) for piece in pieces_by_words(circle[0]))
        self.assertTrue(min(many) > 15, many)

    def test_single_circles(self):
        many = [0, 0]
        for circle in single_circles(214, 150):
            if len(board_by_words(circle)[1]) <= 128:
                many[self.judged(circle)] += 1
        self.assertTrue(min(many) > 20, many)

    def test_known(self):
        for circle in (APART, PAIRS, (SEAT[0], 3) + SEAT[2:], (SEAT[0], 2, (1, 1), SEAT[3]),
                       (SEAT[0], 2, (0, 1), ((4, 9), (5, 5))), (SEAT[0], 2, (0, 1), ((5, 5), (5, 5))),
                       (TRIO[0], 3, (0, 1, 2), ((1, 2), (2, 4), (4, 7)))) + tuple((house, 2, (), ()) for house in EMPTY):
            self.exact(self.judged(circle), True)
            tables = stay_tables(circle)
            ends = till_ends(circle, tables)
            self.exact((ends[0], ends[2], nobody_worse(circle, tables)), ((0, 1), (0, 1), True))

    def test_full(self):
        self.refused(Full, {"zone": (0, 4), "lot": (0, 1)}, stay_tables, SEAT)
        self.refused(Full, {"zone": (2, 4), "lot": (0, 1)}, stay_tables, (SEAT[0], 2, (0, 1), ((0, 4), (2, 6))))
        self.refused(Full, {"zone": (0, 4), "lot": (0, 1, 2)}, stay_tables, circle=TRIO)
