import random
from fractions import Fraction

from someoneout.claims import claim_by, claim_of, gain_told, is_claim, times_all
from tests.oracles import (best_by_words, board_by_words, dues_by_words, end_tellings_by_words, fraction_of, free_lots,
                           granted_by_words, mean_by_words, own_by_words, places_by_words, quotient_by,
                           telling_by_words, worth_by_words)
from tests.support import (Case, EMPTY, ODD_THINGS, SEAT, WRONG_QUOTIENTS, drawn_circle_telling, drawn_circles,
                           drawn_quotient, drawn_tables, wrong_persons, wrong_tables)

TABLES = (((1, 1), (3, 1)), ((1, 1), (3, 1)))
PAID = (((0, 1), (0, 1), (4, 1), (4, 1)), ((0, 1), (4, 1), (0, 1), (0, 1)))
CLAIM = (((0, 1), (4, 1), (4, 1), (4, 1)), ((0, 1), (4, 1), (4, 1), (4, 1)))
OTHER_TELLINGS = tuple(thing for thing in ODD_THINGS if thing not in ((0, 0), (1, 0))) \
    + ((5, 0), (0,), (), (0, 0, 0), [0, 0], (True, 0), (0, (1, 2)))


def wrong_claims(good):
    """What is no claim like this one."""
    first = good[0]
    return ODD_THINGS + ((), good[:1], good + (first,), list(good), (list(first),) + good[1:], (first[1:],) + good[1:],
                         (first + ((0, 1),),) + good[1:], good[:-1] + (None,)) \
        + tuple(good[:-1] + (good[-1][:-1] + (thing,),) for thing in WRONG_QUOTIENTS)


def drawn_claim(dice, circle, many):
    return tuple(tuple(drawn_quotient(dice) for _ in range(many)) for _ in range(circle[1]))


class Claims(Case):
    def circles(self, seed, many, most=40):
        for ends in ((0, 3, 8), (0, 10 ** 30), (0, 1)):
            for circle in drawn_circles(seed, many, 4, ends):
                if len(end_tellings_by_words(circle)) <= most:
                    yield circle

    def test_claims(self):
        dice = random.Random(220)
        for circle in self.circles(220, 30):
            many = len(end_tellings_by_words(circle))
            claim = drawn_claim(dice, circle, many)
            self.exact((is_claim(circle, claim), is_claim(circle, claim + claim[:1])), (True, False))
            self.exact(is_claim(circle, claim[:-1] + (claim[-1][1:],)), False)
        for thing in wrong_claims(CLAIM):
            self.exact(is_claim(SEAT, thing), False)
        self.exact(is_claim(SEAT, CLAIM), True)

    def test_by_tables(self):
        dice = random.Random(221)
        for circle in self.circles(221, 40):
            board = board_by_words(circle)
            tables = drawn_tables(dice, board[0])
            rows = [dues_by_words(board, tables, place) for place in places_by_words(board[0])]
            self.exact(claim_of(circle, tables), tuple(tuple(quotient_by(row[person]) for row in rows)
                                                       for person in range(circle[1])))

    def test_by_payments(self):
        dice = random.Random(222)
        for circle in self.circles(222, 40):
            free = free_lots(circle[0])
            counts = board_by_words(circle)[0]
            told = [telling_by_words(circle, place) for place in places_by_words(counts)]
            paid = drawn_claim(dice, circle, len(told))
            wanted = []
            for person in range(circle[1]):
                own = set(own_by_words(circle, person))
                amounts = []
                for telling, pay in zip(told, paid[person]):
                    granted = worth_by_words(telling, own & set(granted_by_words(free, telling)))
                    amounts.append(quotient_by(best_by_words(free, telling) - (granted - fraction_of(pay))))
                wanted.append(tuple(amounts))
            self.exact(claim_by(circle, paid), tuple(wanted))

    def test_gains(self):
        dice = random.Random(223)
        for circle in self.circles(223, 40):
            free = free_lots(circle[0])
            counts = board_by_words(circle)[0]
            ends = [telling_by_words(circle, place) for place in places_by_words(counts)]
            claim = drawn_claim(dice, circle, len(ends))
            for _ in range(3):
                truth, other = drawn_circle_telling(dice, circle), drawn_circle_telling(dice, circle)
                for person in range(circle[1]):
                    told = tuple(other[wish] if owner == person else truth[wish] for wish, owner in enumerate(circle[2]))
                    values = {end: fraction_of(amount) for end, amount in zip(ends, claim[person])}
                    gain = best_by_words(free, told) - mean_by_words(circle, values, told)
                    for wish in granted_by_words(free, told):
                        gain += truth[wish] - told[wish] if circle[2][wish] == person else Fraction(0)
                    self.exact(gain_told(circle, claim, person, truth, told), quotient_by(gain))

    def test_times(self):
        dice = random.Random(224)
        for _ in range(30):
            claim = tuple(tuple(drawn_quotient(dice) for _ in range(dice.randrange(4))) for _ in range(dice.randrange(4)))
            for many in (0, 1, 2, 6, 10 ** 6):
                self.exact(times_all(claim, many), tuple(tuple(quotient_by(fraction_of(one) * many) for one in row)
                                                         for row in claim))
        self.exact(times_all((((1, 2), (-5, 6)), ()), 4), (((2, 1), (-10, 3)), ()))

    def test_known(self):
        self.exact(claim_by(SEAT, PAID), CLAIM)
        self.exact(claim_of(SEAT, TABLES), (((1, 1), (3, 1), (1, 1), (3, 1)), ((1, 1), (1, 1), (3, 1), (3, 1))))
        self.exact(gain_told(SEAT, CLAIM, 0, (4, 0), (1, 0)), (3, 1))
        self.exact(gain_told(SEAT, CLAIM, 0, (4, 0), (4, 0)), (0, 1))
        self.exact(gain_told(SEAT, CLAIM, 1, (4, 1), (4, 3)), (0, 1))
        for house in EMPTY:
            circle = (house, 2, (), ())
            claim = (((1, 2),), ((-3, 1),))
            self.exact((claim_of(circle, claim), claim_by(circle, claim), is_claim(circle, claim),
                        gain_told(circle, claim, 1, (), ())), (claim, claim, True, (3, 1)))

    def test_wrong_parameters(self):
        for thing in wrong_tables((2, 2)):
            self.not_usable("tables", claim_of, SEAT, thing)
        for thing in wrong_claims(CLAIM):
            self.not_usable("payments", claim_by, SEAT, thing)
            self.not_usable("claim", gain_told, SEAT, thing, None, None, None)
        for thing in wrong_persons(2):
            self.not_usable("person", gain_told, SEAT, CLAIM, thing, None, None)
        for thing in OTHER_TELLINGS:
            self.not_usable("truth", gain_told, SEAT, CLAIM, 0, thing, None)
            self.not_usable("told", gain_told, SEAT, CLAIM, 0, (0, 0), thing)
        # What is told must be the truth for the wishes of all others.
        self.not_usable("told", gain_told, SEAT, CLAIM, 0, (0, 0), (0, 1))
        self.not_usable("told", gain_told, SEAT, CLAIM, 1, (2, 0), (1, 0))
        for thing in (True, False, None, -1, "1", (), (1, 1), [1]):
            self.not_usable("many", times_all, CLAIM, thing)

    def test_by_name(self):
        self.exact(gain_told(told=(1, 0), truth=(4, 0), person=0, claim=CLAIM, circle=SEAT), (3, 1))
        self.exact((claim_by(payments=PAID, circle=SEAT), times_all(many=1, claim=CLAIM)), (CLAIM, CLAIM))
        self.exact((is_claim(thing=CLAIM, circle=SEAT), claim_of(tables=TABLES, circle=SEAT)),
                   (True, claim_of(SEAT, TABLES)))
