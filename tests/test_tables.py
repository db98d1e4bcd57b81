import random

from someoneout.endboards import board_of
from someoneout.tables import dues_of, is_tables, till_row, till_span
from tests.oracles import dues_by_words, places_by_words, quotient_by, span_by_words, tills_by_words
from tests.support import Case, SEAT, drawn_boards, drawn_tables, shapes_of, wrong_tables
from tests.test_boards import WRONG_PLACES

DUES = (((1, 1), (3, 1)), ((1, 1), (3, 1)))


class Tables(Case):
    def test_drawn_boards(self):
        dice = random.Random(156)
        for board in list(drawn_boards(156, 60)) + list(drawn_boards(157, 120, shapes_of(24)[::12])):
            tables = drawn_tables(dice, board[0])
            self.exact(is_tables(board, tables), True)
            for place in places_by_words(board[0]):
                dues = tuple(quotient_by(due) for due in dues_by_words(board, tables, place))
                self.exact(dues_of(board, tables, place), dues)
            self.exact(till_row(board, tables), tuple(quotient_by(till) for till in tills_by_words(board, tables)))
            self.exact(till_span(board, tables), quotient_by(span_by_words(board, tables)))

    def test_known_tables(self):
        board = board_of(SEAT)
        self.exact(dues_of(board, DUES, (0, 1)), ((3, 1), (1, 1)))
        self.exact(till_row(board, DUES), ((2, 1), (0, 1), (0, 1), (2, 1)))
        self.exact(till_span(board, DUES), (2, 1))
        self.exact(till_row(((1, 1), (-5,)), (((1, 2),), ((-1, 3),))), ((31, 6),))
        big = 10 ** 40
        self.exact(till_span(((1, 2), (big, -big)), (((1, big), (0, 1)), ((0, 1),))), (2 * big * big - 1, big))

    def test_wrong_tables(self):
        for board in (board_of(SEAT), ((1, 2, 3), (0,) * 6), ((1, 1), (0,))):
            for thing in wrong_tables(board[0]):
                self.exact(is_tables(board, thing), False)
                self.not_usable("tables", dues_of, board, thing, None)
                self.not_usable("tables", till_row, board, thing)
                self.not_usable("tables", till_span, board, thing)

    def test_wrong_places(self):
        for thing in WRONG_PLACES:
            if thing not in ((0, 0), (1, 0)):
                self.not_usable("place", dues_of, board_of(SEAT), DUES, thing)

    def test_by_name(self):
        board = board_of(SEAT)
        self.exact((is_tables(thing=DUES, board=board), dues_of(place=(0, 0), tables=DUES, board=board)),
                   (True, ((1, 1), (1, 1))))
        self.exact((till_row(tables=DUES, board=board)[1], till_span(tables=DUES, board=board)), ((0, 1), (2, 1)))
