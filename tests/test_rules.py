import random
from fractions import Fraction

from someoneout.rules import dues_at, gains_at, payments_at, rule_till
from tests.oracles import (best_by_words, board_by_words, dues_by_words, fraction_of, free_lots, granted_by_words,
                           mixture_by_words, places_by_words, quotient_by, telling_by_words)
from tests.support import Case, EMPTY, ODD_THINGS, SEAT, drawn_circles, drawn_tables, wrong_tables
from tests.test_mixtures import drawn_tellings_of

TABLES = (((1, 1), (3, 1)), ((1, 1), (3, 1)))


class Rules(Case):
    def test_drawn_circles(self):
        dice = random.Random(187)
        for ends in ((0, 3, 8), (0, 10 ** 30), (0, 7)):
            for circle in drawn_circles(187, 40, 4, ends):
                board = board_by_words(circle)
                if len(board[1]) > 60:
                    continue
                tables = drawn_tables(dice, board[0])
                places = {telling_by_words(circle, place): place for place in places_by_words(board[0])}
                free = free_lots(circle[0])
                for telling in drawn_tellings_of(dice, circle, 1):
                    dues = [Fraction(0)] * circle[1]
                    for end, weight in mixture_by_words(circle, telling):
                        row = dues_by_words(board, tables, places[end])
                        dues = [due + fraction_of(weight) * more for due, more in zip(dues, row)]
                    best = best_by_words(free, telling)
                    lot = granted_by_words(free, telling)
                    own = [sum(telling[wish] for wish in lot if circle[2][wish] == person) for person in range(circle[1])]
                    payments = [worth - (best - due) for worth, due in zip(own, dues)]
                    self.exact(dues_at(circle, tables, telling), tuple(quotient_by(due) for due in dues))
                    self.exact(gains_at(circle, tables, telling), tuple(quotient_by(best - due) for due in dues))
                    self.exact(payments_at(circle, tables, telling), tuple(quotient_by(pay) for pay in payments))
                    self.exact(rule_till(circle, tables, telling), quotient_by(sum(payments)))

    def test_known(self):
        self.exact(dues_at(SEAT, TABLES, (1, 3)), ((5, 2), (3, 2)))
        self.exact(gains_at(SEAT, TABLES, (1, 3)), ((1, 2), (3, 2)))
        self.exact(payments_at(SEAT, TABLES, (1, 3)), ((-1, 2), (3, 2)))
        self.exact(rule_till(SEAT, TABLES, (1, 3)), (1, 1))
        for house in EMPTY:
            circle = (house, 2, (), ())
            tables = (((1, 2),), ((-3, 1),))
            self.exact((dues_at(circle, tables, ()), payments_at(circle, tables, ()), rule_till(circle, tables, ())),
                       (((1, 2), (-3, 1)), ((1, 2), (-3, 1)), (-5, 2)))

    def test_head(self):
        # By dues of half the other's worth and 1 more the till is 2 less half the difference of the worths.
        for one in range(5):
            for other in range(5):
                self.exact(dues_at(SEAT, TABLES, (one, other)),
                           (quotient_by(Fraction(other, 2) + 1), quotient_by(Fraction(one, 2) + 1)))
                self.exact(rule_till(SEAT, TABLES, (one, other)), quotient_by(2 - Fraction(abs(one - other), 2)))

    def test_wrong_parameters(self):
        functions = (dues_at, gains_at, payments_at, rule_till)
        odd = tuple(thing for thing in ODD_THINGS if thing not in ((0, 0), (1, 0)))
        for function in functions:
            for thing in wrong_tables((2, 2)):
                self.not_usable("tables", function, SEAT, thing, None)
            for thing in odd + ((5, 0), (0,), (), (0, 0, 0), [0, 0], (True, 0), (0, (1, 2))):
                self.not_usable("telling", function, SEAT, TABLES, thing)

    def test_by_name(self):
        for function, wanted in ((dues_at, ((5, 2), (3, 2))), (gains_at, ((1, 2), (3, 2))),
                                 (payments_at, ((-1, 2), (3, 2))), (rule_till, (1, 1))):
            self.exact(function(telling=(1, 3), tables=TABLES, circle=SEAT), wanted)
