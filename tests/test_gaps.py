import random
from fractions import Fraction

from someoneout.errors import NotSingle
from someoneout.gaps import gap_sum, gap_tables, gap_till
from someoneout.tables import is_tables
from tests.oracles import (board_by_words, free_lots, is_full_by_words, kept_ranks, pieces_by_words, places_by_words,
                           quotient_by, rank_by_free, rings_by_free, signed_by_words, table_by_words, telling_by_words,
                           tills_by_words)
from tests.support import (Case, EMPTY, ODD_THINGS, PAIRS, SEAT, TRIO, drawn_circle_telling, drawn_circles,
                           single_circles)

COURT = (("limits", 4, (((0, 1, 2, 3), 2),)), 2, (0, 0, 1, 1), ((0, 1),) * 4)


def gap_by_words(low, high, worths):
    steps = [low] + sorted(min(max(worth, low), high) for worth in worths) + [high]
    total = sum((-1) ** at * (steps[at + 1] - steps[at]) for at in range(len(steps) - 1))
    return Fraction(total, 2 ** len(worths))


def is_single_by_words(circle, piece):
    """Full, and any two wishes of one person are a ring."""
    rings = rings_by_free(len(circle[2]), free_lots(circle[0]))
    return all((one, other) in rings for one in piece for other in piece
               if one < other and circle[2][one] == circle[2][other])


def till_by_words(circle, telling):
    free = free_lots(circle[0])
    ranks = table_by_words(circle[0])[2]
    till = Fraction(0)
    for piece in pieces_by_words(circle[0]):
        if is_full_by_words(circle, piece):
            own = [[wish for wish in piece if circle[2][wish] == person] for person in range(circle[1])]
            low = max(max(circle[3][wish][0] for wish in wishes) for wishes in own)
            high = min(max(circle[3][wish][1] for wish in wishes) for wishes in own)
            gap = gap_by_words(low, high, [max(telling[wish] for wish in wishes) for wishes in own])
            sign = -1 if (circle[1] - rank_by_free(free, piece)) % 2 else 1
            if low <= high:
                till -= sign * abs(signed_by_words(kept_ranks(ranks, piece))) * gap * (circle[1] - 1)
    return till


class Gaps(Case):
    def test_sums(self):
        dice = random.Random(215)
        for _ in range(300):
            low = dice.choice((0, 3, 10 ** 30))
            high = low + dice.choice((0, 1, 9, 10 ** 30))
            worths = tuple(dice.choice((dice.randrange(0, high + 5), low, high)) for _ in range(dice.randrange(2, 13)))
            self.exact(gap_sum(low, high, worths), quotient_by(gap_by_words(low, high, worths)))
        self.exact(gap_sum(0, 4, (2, 1)), (1, 2))
        self.exact((gap_sum(0, 4, (0, 0)), gap_sum(0, 4, (4, 4)), gap_sum(0, 4, (0, 4))), ((1, 1), (1, 1), (-1, 1)))
        self.exact((gap_sum(2, 4, (0, 9)), gap_sum(5, 5, (1, 2, 3))), ((-1, 2), (0, 1)))
        self.exact(gap_sum(0, 12, tuple(range(1, 13))), (0, 1))
        self.exact(gap_sum(0, 13, (3,) * 12), (13, 4096))

    def test_drawn_circles(self):
        dice = random.Random(216)
        many = [0, 0]
        for circle in single_circles(216, 200):
            for telling in (drawn_circle_telling(dice, circle), tuple(low for low, _ in circle[3]),
                            tuple(dice.choice(stretch) for stretch in circle[3])):
                till = till_by_words(circle, telling)
                many[till != 0] += 1
                self.exact(gap_till(circle, telling), quotient_by(till))
        self.assertTrue(min(many) > 50, many)

    def test_tables(self):
        many = 0
        for circle in single_circles(217, 120):
            board = board_by_words(circle)
            if len(board[1]) <= 100:
                tables = gap_tables(circle)
                self.exact(is_tables(board, tables), True)
                wanted = [till_by_words(circle, telling_by_words(circle, place)) for place in places_by_words(board[0])]
                self.assertEqual(tills_by_words(board, tables), wanted)
                many += any(wanted)
        self.assertGreater(many, 25)

    def test_not_single(self):
        many = [0, 0]
        for circle in drawn_circles(218, 120, 5):
            telling = tuple(low for low, _ in circle[3])
            full = [piece for piece in pieces_by_words(circle[0]) if is_full_by_words(circle, piece)]
            wrong = [piece for piece in full if not is_single_by_words(circle, piece)]
            many[len(wrong) > 0] += 1
            if wrong:
                self.refused(NotSingle, {"lot": wrong[0]}, gap_till, circle, telling)
                self.refused(NotSingle, {"lot": wrong[0]}, gap_tables, circle)
            else:
                self.exact(gap_till(circle, telling), quotient_by(till_by_words(circle, telling)))
        self.assertTrue(min(many) > 20, many)
        self.refused(NotSingle, {"lot": (0, 1, 2, 3)}, gap_till, COURT, (0, 0, 1, 1))
        beside = (("beside", (SEAT[0], COURT[0])), 2, (0, 1) + COURT[2], SEAT[3] + COURT[3])
        self.refused(NotSingle, {"lot": (2, 3, 4, 5)}, gap_tables, beside)

    def test_known(self):
        self.exact(gap_till(TRIO, (4, 1, 2)), (1, 2))
        self.exact([gap_till(SEAT, told) for told in ((0, 0), (0, 4), (4, 4), (1, 3))], [(1, 1), (-1, 1), (1, 1), (0, 1)])
        self.exact((gap_till(PAIRS, (3, 1, 2, 4)), gap_till((SEAT[0], 3) + SEAT[2:], (0, 4))), ((0, 1), (0, 1)))
        # The common stretch goes from 4 to 4, or from 5 to 4: there is no gap.
        for low in (4, 5):
            self.exact(gap_till((SEAT[0], 2, (0, 1), ((0, 4), (low, 9))), (2, 7)), (0, 1))
        for house in EMPTY:
            self.exact((gap_till((house, 2, (), ()), ()), gap_tables((house, 2, (), ()))), ((0, 1), (((0, 1),),) * 2))

    def test_wrong_parameters(self):
        for thing in (True, False, None, -1, "0", (), (0,), [0]):
            self.not_usable("low", gap_sum, thing, None, None)
            self.not_usable("high", gap_sum, 0, thing, None)
        self.not_usable("high", gap_sum, 5, 4, (1, 2))
        odd = tuple(thing for thing in ODD_THINGS if thing not in ((0, 0), (1, 0)))
        for thing in odd + ((), (3,), [1, 2], (1, -1), (1, True), (None, 1), (1, (2,)), ((1, 2), (1, 3))):
            self.not_usable("worths", gap_sum, 0, 4, thing)
        for thing in odd + ((5, 0), (0,), (), (0, 0, 0), [0, 0], (True, 0)):
            self.not_usable("telling", gap_till, SEAT, thing)
        # What is not as stated comes before what is not single.
        self.not_usable("telling", gap_till, COURT, (0, 0, 1, 2))

    def test_by_name(self):
        self.exact((gap_sum(worths=(2, 1), high=4, low=0), gap_till(telling=(4, 1, 2), circle=TRIO)), ((1, 2), (1, 2)))
        self.exact(gap_tables(circle=SEAT), gap_tables(SEAT))
