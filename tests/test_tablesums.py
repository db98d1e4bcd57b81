import random

from someoneout.endboards import board_of
from someoneout.errors import Uneven
from someoneout.tables import is_tables
from someoneout.tablesums import flat_tables, tables_plus, tables_times
from tests.oracles import fraction_of, mixed_by_words, places_by_words, quotient_by, tills_by_words
from tests.support import (Case, SEAT, TRIO, WRONG_QUOTIENTS, drawn_boards, drawn_quotient, drawn_tables, shapes_of,
                           wrong_tables)
from tests.test_tables import DUES


class TableSums(Case):
    def test_drawn_tables(self):
        dice = random.Random(158)
        for board in drawn_boards(158, 80):
            one, other = drawn_tables(dice, board[0]), drawn_tables(dice, board[0])
            added = tuple(tuple(quotient_by(fraction_of(a) + fraction_of(b)) for a, b in zip(*pair))
                          for pair in zip(one, other))
            self.exact(tables_plus(board, one, other), added)
            factor = drawn_quotient(dice)
            product = tuple(tuple(quotient_by(fraction_of(a) * fraction_of(factor)) for a in table) for table in one)
            self.exact(tables_times(board, one, factor), product)

    def test_flat_tables(self):
        flat = 0
        for board in list(drawn_boards(159, 120)) + list(drawn_boards(160, 200, shapes_of(24)[::7])):
            places = places_by_words(board[0])
            uneven = [place for place in places if mixed_by_words(board, places[0], place) != 0]
            if uneven:
                self.refused(Uneven, {"place": uneven[0]}, flat_tables, board)
            else:
                tables = flat_tables(board)
                self.exact(is_tables(board, tables), True)
                self.assertEqual(set(tills_by_words(board, tables)), {0})
                flat += 1
        self.assertTrue(60 < flat < 260, flat)

    def test_edges(self):
        self.exact(tables_plus(board_of(SEAT), DUES, (((-1, 1), (1, 2)), ((0, 1), (-3, 1)))),
                   (((0, 1), (7, 2)), ((1, 1), (0, 1))))
        self.exact(tables_times(board_of(SEAT), DUES, (0, 1)), (((0, 1), (0, 1)), ((0, 1), (0, 1))))
        self.exact(tables_times(board_of(SEAT), DUES, (-1, 3)), (((-1, 3), (-1, 1)), ((-1, 3), (-1, 1))))
        self.assertEqual(tills_by_words(((1, 1), (7,)), flat_tables(((1, 1), (7,)))), [0])
        self.refused(Uneven, {"place": (1, 1)}, flat_tables, board_of(SEAT))
        self.refused(Uneven, {"place": (1, 1, 1)}, flat_tables, board_of(TRIO))

    def test_wrong_parameters(self):
        board = board_of(SEAT)
        for thing in wrong_tables(board[0]):
            self.not_usable("tables", tables_plus, board, thing, None)
            self.not_usable("other", tables_plus, board, DUES, thing)
            self.not_usable("tables", tables_times, board, thing, None)
        for thing in WRONG_QUOTIENTS:
            self.not_usable("quotient", tables_times, board, DUES, thing)

    def test_by_name(self):
        board = board_of(SEAT)
        self.exact(tables_plus(other=DUES, tables=DUES, board=board), (((2, 1), (6, 1)), ((2, 1), (6, 1))))
        self.exact(tables_times(quotient=(1, 2), tables=DUES, board=board), (((1, 2), (3, 2)), ((1, 2), (3, 2))))
        self.exact(is_tables(((1, 2), (3, 4)), flat_tables(board=((1, 2), (3, 4)))), True)
