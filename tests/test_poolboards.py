import random
from itertools import product
from math import comb

from someoneout.poolboards import cost_difference, pool_board, pool_number, pool_span, pool_stays
from someoneout.spanpapers import least_span
from tests.oracles import all_units, number_of_lot, pool_lots, pool_worth_by_words, quotient_by, sign_of
from tests.support import Case, drawn_pools
from fractions import Fraction

POOL = ((0, 1, 1, 1), ((0, 4), (0, 4)))


def pool_ends_by_words(pool):
    ends = sorted({end for stretch in pool[1] for end in stretch})
    return [[end for end in ends if low <= end <= high] for low, high in pool[1]]


def pool_board_by_words(pool):
    rows = pool_ends_by_words(pool)
    units = all_units(pool)
    return tuple(len(row) for row in rows), tuple(pool_worth_by_words(units, telling) for telling in product(*rows))


def length_by_words(pool):
    return max(0, min(high for _, high in pool[1]) - max(low for low, _ in pool[1]))


def number_by_words(pool):
    return abs(sum(sign_of(len(lot)) * pool[0][number_of_lot(lot)] for lot in pool_lots(len(pool[1]))))


class PoolBoards(Case):
    def test_drawn_pools(self):
        stays = [0, 0]
        for ends in ((0, 1, 3, 4, 9), (0, 10 ** 30), (2, 3)):
            for pool in drawn_pools(237, 60, ends):
                if len(pool_board(pool)[1]) <= 300:
                    self.exact(pool_board(pool), pool_board_by_words(pool))
                number, length, rest = number_by_words(pool), length_by_words(pool), len(pool[1]) - 1
                self.exact(pool_number(pool), number)
                self.exact(pool_stays(pool), number == 0 or length == 0)
                self.exact(pool_span(pool), quotient_by(Fraction(number * length * rest, 2 ** rest)))
                stays[pool_stays(pool)] += 1
        self.assertTrue(min(stays) > 20, stays)

    def test_least_spans(self):
        many = 0
        for pool in drawn_pools(238, 300, (0, 1, 3)):
            board = pool_board(pool)
            if len(board[1]) <= 24:
                self.exact(least_span(board), pool_span(pool))
                many += pool_span(pool) != (0, 1)
        self.assertGreater(many, 20)

    def test_differences(self):
        dice = random.Random(239)
        for _ in range(100):
            costs = tuple(dice.choice((dice.randrange(20), 10 ** 30)) for _ in range(dice.randrange(2, 6)))
            rest = len(costs) - 1
            wanted = sum((-1) ** (rest - at) * comb(rest, at) * cost for at, cost in enumerate(sorted(costs)))
            self.exact(cost_difference(costs), abs(wanted))
        self.exact((cost_difference((1, 3, 0)), cost_difference((7, 7)), cost_difference((0, 5)),
                    cost_difference((0, 2, 3))), (1, 0, 5, 1))

    def test_known(self):
        self.exact((pool_board(POOL), pool_number(POOL), pool_stays(POOL), pool_span(POOL)),
                   (((2, 2), (0, 4, 4, 4)), 1, False, (2, 1)))
        apart = (POOL[0], ((0, 4), (4, 9)))
        self.exact((pool_board(apart), pool_stays(apart), pool_span(apart)), (((2, 2), (4, 9, 4, 9)), True, (0, 1)))
        # The least high is below the greatest low: the length is 0, not less.
        self.exact(pool_span((POOL[0], ((0, 3), (5, 9)))), (0, 1))
        late = (POOL[0], ((0, 4), (2, 6)))
        self.exact((pool_board(late), pool_span(late)), (((3, 3), (2, 4, 6, 2, 4, 6, 4, 4, 6)), (1, 1)))
        self.exact(pool_span(((0,) * 8, ((0, 4),) * 3)), (0, 1))

    def test_by_name(self):
        self.exact((pool_board(pool=POOL), pool_number(pool=POOL), pool_stays(pool=POOL), pool_span(pool=POOL),
                    cost_difference(costs=(4, 1))), (((2, 2), (0, 4, 4, 4)), 1, False, (2, 1), 3))
