import random
from fractions import Fraction

from someoneout.poolboards import pool_board, pool_span, pool_stays
from someoneout.poolgrants import granted_units
from someoneout.pooltables import pool_payments, pool_tables, pool_till
from someoneout.tables import is_tables
from tests.oracles import (all_units, dues_by_words, fraction_of, mixture_by_words, places_by_words,
                           pool_worth_by_words, quotient_by, span_by_words, tills_by_words)
from tests.support import Case, ODD_THINGS, drawn_pools, drawn_tables, wrong_tables
from tests.test_poolboards import pool_board_by_words, pool_ends_by_words
from tests.test_poolgrants import drawn_pool_tellings

POOL = ((0, 1, 1, 1), ((0, 4), (0, 4)))
TABLES = (((1, 1), (3, 1)), ((1, 1), (3, 1)))


class PoolTables(Case):
    def test_tables(self):
        many = [0, 0]
        for ends in ((0, 1, 3, 4), (0, 10 ** 30), (2, 3)):
            for pool in drawn_pools(240, 60, ends):
                board = pool_board(pool)
                if len(board[1]) > 150:
                    continue
                tables = pool_tables(pool)
                self.assertIs(tables.__class__, tuple)
                self.exact(is_tables(board, tables), True)
                self.exact(quotient_by(Fraction(span_by_words(board, tables))), pool_span(pool))
                many[pool_stays(pool)] += 1
                if pool_stays(pool):
                    self.assertEqual(set(tills_by_words(board, tables)), {0})
        self.assertTrue(min(many) > 20, many)

    def test_payments(self):
        dice = random.Random(241)
        for ends in ((0, 3, 8), (0, 10 ** 30), (0, 7)):
            for pool in drawn_pools(241, 40, ends):
                rows = pool_ends_by_words(pool)
                board = pool_board_by_words(pool)
                if len(board[1]) > 60:
                    continue
                units = all_units(pool)
                tables = drawn_tables(dice, board[0])
                # A pool's mixtures are those of a circle with a wish for each person.
                circle = (None, len(rows), tuple(range(len(rows))), pool[1])
                for telling in drawn_pool_tellings(dice, pool):
                    dues = [Fraction(0)] * len(rows)
                    for end, weight in mixture_by_words(circle, telling):
                        place = tuple(row.index(worth) for row, worth in zip(rows, end))
                        more = dues_by_words(board, tables, place)
                        dues = [due + fraction_of(weight) * other for due, other in zip(dues, more)]
                    best = pool_worth_by_words(units, telling)
                    got = granted_units(pool, telling)
                    payments = [worth * own - (best - due) for worth, own, due in zip(telling, got, dues)]
                    self.exact(pool_payments(pool, tables, telling), tuple(quotient_by(pay) for pay in payments))
                    self.exact(pool_till(pool, tables, telling), quotient_by(sum(payments)))

    def test_known(self):
        self.exact(pool_payments(POOL, TABLES, (1, 3)), ((-1, 2), (3, 2)))
        self.exact([pool_till(POOL, TABLES, told) for told in ((1, 3), (0, 0), (4, 0), (2, 2))],
                   [(1, 1), (2, 1), (0, 1), (2, 1)])
        self.exact(len(places_by_words(pool_board(POOL)[0])), 4)

    def test_wrong_parameters(self):
        for function in (pool_payments, pool_till):
            for thing in wrong_tables((2, 2)):
                self.not_usable("tables", function, POOL, thing, None)
            for thing in ODD_THINGS + ((5, 0), (0,), (), (0, 0, 0), [0, 0], (True, 0), (0, (1, 2))):
                if thing not in ((0, 0), (1, 0)):
                    self.not_usable("telling", function, POOL, TABLES, thing)

    def test_by_name(self):
        self.exact((pool_payments(telling=(1, 3), tables=TABLES, pool=POOL),
                    pool_till(telling=(1, 3), tables=TABLES, pool=POOL), pool_tables(pool=POOL)),
                   (((-1, 2), (3, 2)), (1, 1), pool_tables(POOL)))
