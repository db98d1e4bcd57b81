from someoneout.boardchecker import lets_board
from someoneout.boards import is_board, others_of, places_of, worth_at
from tests.oracles import choices_by_words, places_by_words, worths_by_place
from tests.support import Case, ODD_THINGS, drawn_boards, shapes_of, wrong_persons

BOARD = ((2, 3), (5, -1, 0, 10 ** 40, 7, 7))
WRONG_PLACES = ODD_THINGS + ((), (0,), (0, 0, 0), (2, 0), (0, 3), [0, 0], (0, True), (False, 0), (0, -1), "00")


class Boards(Case):
    def test_drawn_boards(self):
        for board in list(drawn_boards(150, 60)) + list(drawn_boards(151, 120, shapes_of(24)[::12])):
            counts = board[0]
            places = places_by_words(counts)
            self.exact(is_board(board), True)
            self.exact(lets_board(board), len(places))
            self.exact(places_of(board), tuple(places))
            for place, worth in worths_by_place(board).items():
                self.exact(worth_at(board, place), worth)
            for person in range(len(counts)):
                self.exact(others_of(board, person), tuple(choices_by_words(counts, person)))

    def test_one_place(self):
        board = ((1, 1), (-3,))
        self.exact((lets_board(board), places_of(board), worth_at(board, (0, 0))), (1, ((0, 0),), -3))
        self.exact((others_of(board, 0), others_of(board, 1)), (((0,),), ((0,),)))

    def test_shape(self):
        for thing in ODD_THINGS + (list(BOARD), BOARD + (1,), BOARD[:1], ()):
            if not (isinstance(thing, tuple) and len(thing) == 2):
                self.wrong_paper("shape", -1, lets_board, thing)
            self.exact(is_board(thing), False)

    def test_counts(self):
        for thing in ODD_THINGS + ((), (6,), (0, 6), (6, 0), (2, -3), (2, True), [2, 3], (2, 3, None), "23", (2, "3")):
            self.wrong_paper("counts", -1, lets_board, (thing, BOARD[1]))
            self.wrong_paper("counts", -1, lets_board, (thing, None))
            self.exact(is_board((thing, BOARD[1])), False)

    def test_worths(self):
        for thing in ODD_THINGS + ((), BOARD[1][:-1], BOARD[1] + (1,), list(BOARD[1])):
            self.wrong_paper("worths", -1, lets_board, (BOARD[0], thing))
        self.wrong_paper("worths", -1, lets_board, ((10 ** 59, 10 ** 59), (1,)))
        for at in range(6):
            for thing in (True, False, None, "1", (1,), [1], ()):
                worths = BOARD[1][:at] + (thing,) + BOARD[1][at + 1:]
                self.wrong_paper("worth", at, lets_board, (BOARD[0], worths))
                self.wrong_paper("worth", min(at, 3), lets_board, (BOARD[0], worths[:3] + (None,) + worths[4:]))
                self.exact(is_board((BOARD[0], worths)), False)

    def test_wrong_parameters(self):
        for thing in WRONG_PLACES:
            if thing not in ((0, 0), (1, 0)):
                self.not_usable("place", worth_at, BOARD, thing)
        for thing in wrong_persons(2):
            self.not_usable("person", others_of, BOARD, thing)

    def test_by_name(self):
        self.exact((is_board(thing=BOARD), lets_board(thing=BOARD), len(places_of(board=BOARD))), (True, 6, 6))
        self.exact((worth_at(place=(0, 1), board=BOARD), others_of(person=0, board=BOARD)), (-1, ((0,), (1,), (2,))))
