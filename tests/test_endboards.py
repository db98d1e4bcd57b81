import random

from someoneout.boards import is_board
from someoneout.endboards import board_of, end_rows, place_of, telling_at
from tests.oracles import (board_by_words, end_tellings_by_words, places_by_words, rows_by_words, telling_by_words)
from tests.support import Case, EMPTY, ODD_THINGS, PAIRS, SEAT, TRIO, drawn_circle_telling, drawn_circles, wrong_persons
from tests.test_boards import WRONG_PLACES

LATER = (("limits", 2, ()), 2, (1, 1), ((0, 3), (3, 5)))


class EndBoards(Case):
    def test_drawn_circles(self):
        for circle in drawn_circles(152, 120, 4, (0, 2, 5)):
            board = board_by_words(circle)
            if len(board[1]) > 150:
                continue
            self.exact(board_of(circle), board)
            self.exact(is_board(board), True)
            for person in range(circle[1]):
                self.exact(end_rows(circle, person), tuple(rows_by_words(circle, person)))
            places = places_by_words(board[0])
            for place in places:
                telling = telling_by_words(circle, place)
                self.exact(telling_at(circle, place), telling)
                self.exact(place_of(circle, telling), place)
            self.assertEqual(len(places), len(end_tellings_by_words(circle)))

    def test_known_boards(self):
        self.exact((end_rows(LATER, 0), end_rows(LATER, 1)), (((),), ((0, 3), (0, 5), (3, 3), (3, 5))))
        self.exact((place_of(LATER, (3, 3)), telling_at(LATER, (0, 1))), ((0, 2), (0, 5)))
        self.exact(board_of(LATER), ((1, 4), (3, 5, 6, 8)))
        self.exact(board_of(SEAT), ((2, 2), (0, 4, 4, 4)))
        self.exact(board_of(TRIO), ((2, 2, 2), (0, 4, 4, 8, 4, 8, 8, 8)))
        # Ends of others within a stretch count, too.
        wide = (SEAT[0], 3, (2, 0), ((0, 9), (3, 4)))
        self.exact((end_rows(wide, 2), end_rows(wide, 0)), (((0,), (3,), (4,), (9,)), ((3,), (4,))))

    def test_edges(self):
        for house in EMPTY:
            circle = (house, 3, (), ())
            self.exact((board_of(circle), end_rows(circle, 2)), (((1, 1, 1), (0,)), ((),)))
            self.exact((place_of(circle, ()), telling_at(circle, (0, 0, 0))), ((0, 0, 0), ()))
        level = (SEAT[0], 2, (0, 1), ((5, 5), (5, 5)))
        self.exact((board_of(level), place_of(level, (5, 5))), (((1, 1), (5,)), (0, 0)))
        big = 10 ** 30
        self.exact(board_of((SEAT[0], 2, (0, 1), ((0, big), (1, 1)))), ((3, 1), (1, 1, big)))

    def test_wrong_persons(self):
        for thing in wrong_persons(2):
            self.not_usable("person", end_rows, SEAT, thing)

    def test_wrong_tellings(self):
        odd = tuple(thing for thing in ODD_THINGS if thing != (0, 0))
        for thing in odd + ((1, 4), (4, 3), (0, 5), (0, 4, 4), [0, 4], (0, False), (0,), ()):
            self.not_usable("telling", place_of, SEAT, thing)
        unit = (SEAT[0], 2, (0, 1), ((0, 1), (0, 1)))
        for thing in ((0, True), (False, 1), (True, True)):
            self.not_usable("telling", place_of, unit, thing)
        dice = random.Random(153)
        for circle in drawn_circles(153, 60):
            telling = drawn_circle_telling(dice, circle)
            if telling not in end_tellings_by_words(circle):
                self.not_usable("telling", place_of, circle, telling)

    def test_wrong_places(self):
        for thing in WRONG_PLACES:
            if thing not in ((0, 0), (1, 0)):
                self.not_usable("place", telling_at, SEAT, thing)
        self.not_usable("place", telling_at, PAIRS, (0, 0, 0))
        self.not_usable("place", telling_at, LATER, (1, 0))

    def test_by_name(self):
        self.exact((end_rows(person=1, circle=SEAT), board_of(circle=SEAT)), (((0,), (4,)), ((2, 2), (0, 4, 4, 4))))
        self.exact((place_of(telling=(0, 4), circle=SEAT), telling_at(place=(1, 0), circle=SEAT)), ((0, 1), (4, 0)))
