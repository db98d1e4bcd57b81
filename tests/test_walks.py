import random
from fractions import Fraction
from itertools import permutations

from someoneout.endboards import board_of
from someoneout.spanpapers import least_span
from someoneout.walks import best_walk, lets_walk
from tests.oracles import places_by_words, quotient_by, worths_by_place
from tests.support import Case, ODD_THINGS, SEAT, TRIO, drawn_boards, drawn_worths
from tests.test_boards import WRONG_PLACES

PAIRED = tuple((one, other) for one in range(1, 13) for other in range(1, 13) if one * other <= 24)
FULL = ((8, 8), (64, 1), (1, 64), (32, 2), (2, 32), (16, 4), (4, 16))


def mean_by_words(board, walk):
    worths = worths_by_place(board)
    total = sum(worths[x, y] - worths[walk[(at + 1) % len(walk)][0], y] for at, (x, y) in enumerate(walk))
    return Fraction(total, len(walk))


def best_mean_by_words(board):
    """The greatest mean of walks whose first rows are all unlike: others are put together from such ones."""
    many, more = board[0]
    worths = worths_by_place(board)
    best = Fraction(0)
    for length in range(2, many + 1):
        for rows in permutations(range(many), length):
            if rows[0] == min(rows):
                total = sum(max(worths[x, y] - worths[z, y] for y in range(more)) for x, z in zip(rows, rows[1:] + rows[:1]))
                best = max(best, Fraction(total, length))
    return best


class Walks(Case):
    def walked(self, board):
        walk = best_walk(board)
        self.assertIs(walk.__class__, tuple)
        places = places_by_words(board[0])
        self.assertTrue(walk and all(place in places for place in walk))
        mean = quotient_by(mean_by_words(board, walk))
        self.exact(lets_walk(board, walk), mean)
        return mean

    def test_by_trying(self):
        for board in drawn_boards(170, 250, tuple(counts for counts in PAIRED if counts[0] < 6)):
            self.exact(self.walked(board), quotient_by(best_mean_by_words(board)))

    def test_the_least_span(self):
        for board in drawn_boards(171, 400, PAIRED):
            self.exact(self.walked(board), least_span(board))

    def test_sixty_four_places(self):
        dice = random.Random(172)
        for counts in FULL:
            for kind in range(8):
                board = (counts, tuple(drawn_worths(dice, counts, kind)))
                self.exact(self.walked(board), least_span(board))

    def test_any_walks(self):
        dice = random.Random(173)
        for board in drawn_boards(173, 150, PAIRED):
            places = places_by_words(board[0])
            for length in (1, 2, 3, 9, 30):
                walk = tuple(dice.choice(places) for _ in range(length))
                self.exact(lets_walk(board, walk), quotient_by(mean_by_words(board, walk)))

    def test_known(self):
        board = board_of(SEAT)
        self.exact((lets_walk(board, ((0, 1), (1, 0))), lets_walk(board, ((0, 0),))), ((2, 1), (0, 1)))
        self.exact((lets_walk(board, ((0, 0), (1, 1))), lets_walk(board, ((0, 1), (1, 0)) * 3)), ((-2, 1), (2, 1)))
        self.exact(self.walked(board), (2, 1))
        self.exact(self.walked(((1, 1), (-4,))), (0, 1))

    def test_wrong_boards(self):
        for board in (board_of(TRIO), ((1, 1, 1), (0,)), ((2, 2, 1, 1), (0,) * 4)):
            self.not_usable("board", best_walk, board)
            self.not_usable("board", lets_walk, board, ((0, 0),))
            self.not_usable("board", lets_walk, board, None)

    def test_refused(self):
        board = board_of(SEAT)
        for thing in ODD_THINGS + ((), [(0, 0)]):
            if not isinstance(thing, tuple) or thing == ():
                self.wrong_paper("shape", -1, lets_walk, board, thing)
        for thing in WRONG_PLACES:
            if thing not in ((0, 0), (1, 0)):
                self.wrong_paper("place", 0, lets_walk, board, (thing,))
                self.wrong_paper("place", 2, lets_walk, board, ((0, 0), (1, 1), thing, None))

    def test_by_name(self):
        board = board_of(SEAT)
        self.exact(lets_walk(thing=best_walk(board=board), board=board), (2, 1))
