from someoneout.endboards import board_of
from someoneout.mixed import mixed_at, uneven_place
from tests.oracles import mixed_by_words, places_by_words
from tests.support import Case, SEAT, TRIO, drawn_boards, shapes_of
from tests.test_boards import WRONG_PLACES


class Mixed(Case):
    def test_drawn_boards(self):
        even = 0
        for board in list(drawn_boards(154, 60)) + list(drawn_boards(155, 150, shapes_of(20)[::9])):
            places = places_by_words(board[0])
            for here in places[::3]:
                for there in places:
                    self.exact(mixed_at(board, here, there), mixed_by_words(board, here, there))
            start = places[0]
            uneven = [place for place in places if mixed_by_words(board, start, place) != 0]
            self.exact(uneven_place(board), uneven[0] if uneven else None)
            even += not uneven
        self.assertTrue(20 < even < 190, even)

    def test_known_boards(self):
        self.exact(mixed_at(board_of(SEAT), (0, 0), (1, 1)), -4)
        self.exact(mixed_at(board_of(SEAT), (0, 1), (1, 0)), 4)
        self.exact(mixed_at(board_of(SEAT), (0, 1), (1, 1)), 0)
        self.exact(uneven_place(board_of(SEAT)), (1, 1))
        self.exact(uneven_place(board_of(TRIO)), (1, 1, 1))
        self.exact(uneven_place(((3, 3), (0, 1, 2, 5, 6, 7, 1, 2, 4))), (2, 2))
        self.exact(uneven_place(((3, 3), (0, 1, 2, 5, 6, 7, 1, 1, 4))), (2, 1))
        self.exact((uneven_place(((1, 1), (5,))), uneven_place(((1, 3), (5, 0, 7)))), (None, None))

    def test_wrong_places(self):
        board = board_of(SEAT)
        for thing in WRONG_PLACES:
            if thing not in ((0, 0), (1, 0)):
                self.not_usable("here", mixed_at, board, thing, None)
                self.not_usable("there", mixed_at, board, (0, 0), thing)

    def test_by_name(self):
        self.exact(mixed_at(there=(1, 1), here=(0, 0), board=board_of(SEAT)), -4)
        self.exact(uneven_place(board=board_of(SEAT)), (1, 1))
