import random
from fractions import Fraction

from someoneout.circlespans import circle_span, corner_excess
from someoneout.endboards import board_of
from someoneout.grants import best_worth
from someoneout.holds import hold_paper, least_hold, lets_hold
from someoneout.quotients import less
from tests.oracles import (choice_sums_by_words, dues_by_words, fraction_of, others_at, places_by_words, quotient_by,
                           tills_by_words)
from tests.support import (Case, EMPTY, ODD_THINGS, PAIRS, SEAT, WRONG_QUOTIENTS, drawn_circles, wrong_tables)

SECONDS = (((0, 1), (4, 1)), ((0, 1), (4, 1)))
SHARES, WEIGHTS = ((0, 1), (0, 1), (0, 1), (1, 1)), ((0, 1), (1, 1), (1, 1), (0, 1))
SEAT_OF_THREE = (("limits", 3, (((0, 1, 2), 1),)), 3, (0, 1, 2), ((0, 1),) * 3)


class Programs(Case):
    def judged(self, circle, paper):
        """The greatest till that the paper tells, by adding up alone."""
        board = board_of(circle)
        places = places_by_words(board[0])
        tables, shares, weights = paper
        tills = tills_by_words(board, tables)
        self.assertGreaterEqual(min(tills), 0)
        for place, worth in zip(places, board[1]):
            self.assertLessEqual(max(dues_by_words(board, tables, place)), worth)
        shares = [fraction_of(share) for share in shares]
        weights = [fraction_of(weight) for weight in weights]
        self.assertEqual((len(shares), len(weights)), (len(places), len(places)))
        self.assertTrue(min(shares) >= 0 and min(weights) >= 0 and sum(shares) == 1)
        held = sum(worth * (weight - share) for worth, weight, share in zip(board[1], weights, shares))
        held = held * (circle[1] - 1)
        for person in range(circle[1]):
            one = choice_sums_by_words(board, person, weights)
            other = choice_sums_by_words(board, person, shares)
            for choice in one:
                self.assertGreaterEqual(one[choice], other[choice])
                least = min(worth for place, worth in zip(places, board[1]) if others_at(place, person) == choice)
                held -= (one[choice] - other[choice]) * least
        self.assertEqual(held, max(tills))
        return quotient_by(held)

    def solved(self, circle):
        paper = hold_paper(circle)
        self.assertIs(paper.__class__, tuple)
        hold = self.judged(circle, paper)
        self.exact(lets_hold(circle, paper), hold)
        self.exact(least_hold(circle), hold)
        return hold

    def circles(self, seed, many):
        for ends in ((0, 1), (0, 3, 4), (0, 5, 10 ** 30)):
            for circle in drawn_circles(seed, many, 5, ends):
                if len(board_of(circle)[1]) <= 24:
                    yield circle

    def test_drawn_circles(self):
        above = many = 0
        for circle in self.circles(180, 150):
            hold = self.solved(circle)
            self.assertFalse(less(hold, circle_span(circle)))
            above += less(circle_span(circle), hold)
            many += 1
        self.assertTrue(many > 250 and above > 10, (many, above))

    def test_two_persons(self):
        # (G6): the greater of half the corner excess, and the excess less the best worth at all lows.
        both = [0, 0]
        for circle in self.circles(181, 150):
            if circle[1] == 2:
                excess = corner_excess(circle)
                least = best_worth(circle[0], tuple(low for low, _ in circle[3]))
                self.exact(least_hold(circle), quotient_by(max(Fraction(excess, 2), Fraction(excess - least))))
                both[2 * least < excess] += 1
        self.assertTrue(min(both) > 5, both)

    def test_nought_exactly_if_it_stays(self):
        for circle in self.circles(182, 100):
            self.exact(least_hold(circle) == (0, 1), circle_span(circle) == (0, 1))

    def test_known(self):
        self.exact((self.solved(SEAT), self.solved(SEAT_OF_THREE)), ((4, 1), (2, 3)))
        self.exact((self.solved(PAIRS), self.solved((SEAT[0], 3) + SEAT[2:])), ((0, 1), (0, 1)))
        lifted = (SEAT[0], 2, (0, 1), ((3, 7), (3, 7)))
        self.exact(self.solved(lifted), (2, 1))
        for house in EMPTY:
            self.exact(self.solved((house, 2, (), ())), (0, 1))
        self.exact(self.solved((SEAT[0], 2, (0, 1), ((5, 5), (5, 5)))), (0, 1))

    def test_other_true_papers(self):
        dice = random.Random(183)
        for circle in self.circles(183, 40):
            tables, shares, weights = hold_paper(circle)
            hold = lets_hold(circle, (tables, shares, weights))
            # Shares and weights taken at other rates from two true papers are true.
            board = board_of(circle)
            even = [Fraction(dice.randrange(4)) for _ in board[1]]
            if hold == (0, 1) and any(even):
                even = tuple(quotient_by(share / sum(even)) for share in even)
                self.exact(lets_hold(circle, (tables, even, even)), hold)


class Refused(Case):
    def wrong(self, word, at, thing, circle=SEAT):
        self.wrong_paper(word, at, lets_hold, circle, thing)

    def test_true(self):
        self.exact(lets_hold(SEAT, (SECONDS, SHARES, WEIGHTS)), (4, 1))

    def test_shape_and_tables(self):
        for thing in ODD_THINGS + ([SECONDS, SHARES, WEIGHTS], (SECONDS, SHARES), (SECONDS,) * 4, ()):
            self.wrong("shape", -1, thing)
        for thing in wrong_tables((2, 2)):
            self.wrong("tables", -1, (thing, None, None))

    def test_short(self):
        self.wrong("short", 0, ((((-1, 1), (4, 1)), ((0, 1), (4, 1))), None, None))
        self.wrong("short", 1, ((((0, 1), (3, 1)), ((0, 1), (4, 1))), None, None))
        self.wrong("short", 2, ((((0, 1), (4, 1)), ((0, 1), (3, 1))), None, None))
        # By the head's rule nobody is short, but both are worse off.
        self.wrong("worse", 0, ((((1, 1), (3, 1)), ((1, 1), (3, 1))), None, None))

    def test_worse(self):
        self.wrong("worse", 0, ((((1, 1), (4, 1)), ((1, 1), (4, 1))), None, None))
        self.wrong("worse", 1, ((((0, 1), (4, 1)), ((1, 2), (4, 1))), None, None))
        self.wrong("worse", 0, ((((0, 1), (9, 2)), ((0, 1), (4, 1))), None, None))

    def test_shares_and_weights(self):
        shares = ODD_THINGS + ((), list(SHARES), SHARES[:3], SHARES + ((0, 1),), ((0, 1),) * 4, ((1, 1),) * 4,
                               ((-1, 2), (1, 2), (1, 1), (0, 1)))
        for thing in shares + tuple((thing,) + SHARES[1:] for thing in WRONG_QUOTIENTS):
            self.wrong("shares", -1, (SECONDS, thing, None))
        weights = ODD_THINGS + ((), list(WEIGHTS), WEIGHTS[:3], WEIGHTS + ((0, 1),), ((-1, 2), (1, 1), (1, 1), (1, 1)))
        for thing in weights + tuple((thing,) + WEIGHTS[1:] for thing in WRONG_QUOTIENTS):
            self.wrong("weights", -1, (SECONDS, SHARES, thing))

    def test_agree(self):
        none = ((0, 1),) * 4
        self.wrong("agree", 0, (SECONDS, SHARES, none))
        self.wrong("agree", 0, (SECONDS, SHARES, ((0, 1), (0, 1), (1, 1), (0, 1))))
        self.wrong("agree", 1, (SECONDS, SHARES, ((0, 1), (1, 1), (0, 1), (0, 1))))
        self.wrong("agree", 0, (SECONDS, SHARES, ((0, 1), (99, 100), (1, 1), (0, 1))))
        self.wrong("agree", 1, (SECONDS, SHARES, ((9, 1), (1, 1), (99, 100), (0, 1))))

    def test_hold(self):
        self.wrong("hold", -1, (SECONDS, SHARES, SHARES))
        self.wrong("hold", -1, (SECONDS, SHARES, ((0, 1), (1, 1), (1, 1), (1, 3))))
        self.wrong("hold", -1, (SECONDS, ((1, 1), (0, 1), (0, 1), (0, 1)), ((1, 1), (0, 1), (0, 1), (0, 1))))
        # More weight where the worth is what the least worths at its choices add up to changes nothing.
        self.exact(lets_hold(SEAT, (SECONDS, SHARES, ((7, 1), (2, 1), (4, 3), (0, 1)))), (4, 1))

    def test_by_name(self):
        self.exact(lets_hold(thing=(SECONDS, SHARES, WEIGHTS), circle=SEAT), (4, 1))
        self.exact((least_hold(circle=SEAT), len(hold_paper(circle=SEAT))), ((4, 1), 3))
