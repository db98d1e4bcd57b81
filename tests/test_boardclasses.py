import random

from someoneout.boardclasses import Board
from someoneout.boards import places_of
from someoneout.mixed import mixed_at, uneven_place
from someoneout.spanpapers import least_span
from someoneout.tables import till_row
from tests.support import Case, ODD_THINGS, drawn_boards, drawn_tables, wrong_tables
from tests.test_boards import BOARD, WRONG_PLACES


class BoardObjects(Case):
    def test_asked(self):
        dice = random.Random(184)
        for board in drawn_boards(184, 60):
            one = Board(*board)
            tables = drawn_tables(dice, board[0])
            here, there = dice.choice(places_of(board)), dice.choice(places_of(board))
            for _ in range(2):
                self.exact(one.span(), least_span(board))
                self.exact(one.till(tables), till_row(board, tables))
                self.exact(one.mixed(here, there), mixed_at(board, here, there))
                self.exact(one.even(), uneven_place(board) is None)
                self.exact(one.told(), board)

    def test_equal(self):
        boards = [BOARD, ((3, 2), BOARD[1]), ((2, 3, 1), BOARD[1]), (BOARD[0], BOARD[1][::-1]), ((1, 1), (0,))]
        for place, board in enumerate(boards):
            one = Board(*board)
            for other_place, other in enumerate(boards):
                self.exact(one == Board(*other), place == other_place)
                self.exact(one != Board(*other), place != other_place)
            for thing in ODD_THINGS + (board, list(board), board[0], one.span()):
                self.exact(one == thing, False)
                self.exact(thing == one, False)

    def test_wrong_parameters(self):
        for thing in ODD_THINGS + ((), (6,), (0, 6), (2, True), [2, 3], (2, -3)):
            self.not_usable("counts", Board, thing, None)
            self.not_usable("counts", Board, thing, BOARD[1])
        for thing in ODD_THINGS + ((), BOARD[1][:-1], BOARD[1] + (1,), list(BOARD[1]), BOARD[1][:-1] + (True,),
                                   (None,) + BOARD[1][1:], BOARD[1][:-1] + ((1, 1),)):
            self.not_usable("worths", Board, BOARD[0], thing)
        self.not_usable("worths", Board, (10 ** 59, 10 ** 59), (1,))

    def test_wrong_arguments(self):
        one = Board(*BOARD)
        for thing in wrong_tables(BOARD[0]):
            self.not_usable("tables", one.till, thing)
        for thing in WRONG_PLACES:
            if thing not in ((0, 0), (1, 0)):
                self.not_usable("here", one.mixed, thing, None)
                self.not_usable("there", one.mixed, (0, 0), thing)
        self.exact(one.told(), BOARD)

    def test_by_name(self):
        one = Board(worths=(0, 4, 4, 4), counts=(2, 2))
        self.exact((one.mixed(there=(1, 1), here=(0, 0)), one.span(), one.even()), (-4, (2, 1), False))
        self.exact(one.till(tables=(((1, 1), (3, 1)),) * 2), ((2, 1), (0, 1), (0, 1), (2, 1)))
