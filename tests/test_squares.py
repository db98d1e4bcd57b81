import random
from fractions import Fraction
from math import prod

from someoneout.errors import NotSingle
from someoneout.odds import even_odds
from someoneout.squares import least_square, mixed_part, square_by_number
from tests.oracles import (best_by_words, draws_by_words, free_lots, is_full_by_words, kept_ranks, lots_of,
                           pieces_by_words, quotient_by, sign_of, signed_by_words, table_by_words)
from tests.support import (Case, EMPTY, ODD_THINGS, PAIRS, SEAT, drawn_circle_telling, drawn_circles, drawn_odds,
                           single_circles)
from tests.test_gaps import is_single_by_words
from tests.test_odds import WRONG_DRAWS

EVEN = (((0, 1), (4, 1)), ((0, 1), (4, 1)))
COURT = (("limits", 4, (((0, 1, 2, 3), 2),)), 2, (0, 0, 1, 1), ((0, 1),) * 4)


def mixed_part_by_words(circle, odds, telling):
    """Lot of persons by lot: the mean of the best worth with all other wishes drawn."""
    free = free_lots(circle[0])
    draws = list(draws_by_words(odds))
    total = Fraction(0)
    for lot in lots_of(circle[1]):
        mean = Fraction(0)
        for drawn, chance in draws:
            told = tuple(telling[wish] if owner in lot else drawn[wish] for wish, owner in enumerate(circle[2]))
            mean += chance * best_by_words(free, told)
        total += sign_of(circle[1] - len(lot)) * mean
    return total


def square_by_words(circle, odds):
    return (circle[1] - 1) ** 2 * sum((chance * mixed_part_by_words(circle, odds, telling) ** 2
                                       for telling, chance in draws_by_words(odds)), Fraction(0))


def integral_by_words(circle, odds):
    """The sum over the full pieces of the number's square times the double integral, step by step."""
    ranks = table_by_words(circle[0])[2]
    total = Fraction(0)
    for piece in pieces_by_words(circle[0]):
        if not is_full_by_words(circle, piece):
            continue
        number = abs(signed_by_words(kept_ranks(ranks, piece)))
        heights = sorted({0} | {worth for wish in piece for worth, _ in odds[wish]})

        def chance(person, height):
            none = Fraction(1)
            for wish in piece:
                if circle[2][wish] == person:
                    below = sum(weight for worth, weight in odds[wish] if worth < height)
                    none *= Fraction(below, sum(weight for _, weight in odds[wish]))
            return 1 - none

        for low, s in zip(heights, heights[1:]):
            for other, t in zip(heights, heights[1:]):
                spread = Fraction((s - low) * (t - other))
                for person in range(circle[1]):
                    spread *= chance(person, max(s, t)) - chance(person, s) * chance(person, t)
                total += number ** 2 * spread
    return (circle[1] - 1) ** 2 * total


class Squares(Case):
    def circles(self, seed, many, most):
        dice = random.Random(seed)
        for ends in ((0, 3, 8), (0, 10 ** 30), (0, 1)):
            for circle in list(drawn_circles(seed, many, 5, ends)) + list(single_circles(seed, many, ends)):
                odds = drawn_odds(dice, circle, dice.random() < 0.3, most)
                if dice.random() < 0.5 and prod(len(part) for part in even_odds(circle)) <= most:
                    odds = tuple(tuple((worth, dice.choice((1, 5))) for worth, _ in part) for part in even_odds(circle))
                yield dice, circle, odds

    def test_mixed_parts(self):
        many = [0, 0]
        for dice, circle, odds in self.circles(260, 40, 24):
            for telling in (drawn_circle_telling(dice, circle), tuple(part[-1][0] for part in odds)):
                part = mixed_part_by_words(circle, odds, telling)
                many[part != 0] += 1
                self.exact(mixed_part(circle, odds, telling), quotient_by(part))
        self.assertTrue(min(many) > 30, many)

    def test_least_squares(self):
        many = [0, 0]
        for _, circle, odds in self.circles(261, 40, 12):
            square = square_by_words(circle, odds)
            many[square != 0] += 1
            self.exact(least_square(circle, odds), quotient_by(square))
        self.assertTrue(min(many) > 20, many)

    def test_by_numbers(self):
        many = [0, 0, 0]
        for _, circle, odds in self.circles(262, 50, 64):
            full = [piece for piece in pieces_by_words(circle[0]) if is_full_by_words(circle, piece)]
            wrong = [piece for piece in full if not is_single_by_words(circle, piece)]
            if wrong:
                many[2] += 1
                self.refused(NotSingle, {"lot": wrong[0]}, square_by_number, circle, odds)
                continue
            square = integral_by_words(circle, odds)
            many[square != 0] += 1
            self.exact(square_by_number(circle, odds), quotient_by(square))
            self.exact(least_square(circle, odds), quotient_by(square))
        self.assertTrue(min(many) > 20, many)

    def test_known(self):
        self.exact((mixed_part(SEAT, EVEN, (4, 4)), square_by_number(SEAT, EVEN), least_square(SEAT, EVEN)),
                   ((-1, 1), (1, 1), (1, 1)))
        self.exact([mixed_part(SEAT, EVEN, told) for told in ((0, 0), (0, 4), (2, 2), (1, 3))],
                   [(-1, 1), (1, 1), (-1, 1), (0, 1)])
        uneven = (((0, 1), (4, 3)), ((1, 1),))
        self.exact((mixed_part(SEAT, uneven, (2, 1)), least_square(SEAT, uneven)), ((0, 1), (0, 1)))
        self.exact((least_square(PAIRS, even_odds(PAIRS)), square_by_number(PAIRS, even_odds(PAIRS))), ((0, 1), (0, 1)))
        self.exact((least_square(COURT, even_odds(COURT)), least_square((SEAT[0], 3) + SEAT[2:], EVEN)), ((5, 64), (0, 1)))
        self.refused(NotSingle, {"lot": (0, 1, 2, 3)}, square_by_number, COURT, even_odds(COURT))
        for house in EMPTY:
            circle = (house, 2, (), ())
            self.exact((mixed_part(circle, (), ()), least_square(circle, ()), square_by_number(circle, ())),
                       ((0, 1), (0, 1), (0, 1)))

    def test_one_worth_alone(self):
        # Who is drawn at one worth tells nothing new, so that nothing is left.
        self.exact(least_square(SEAT, (((3, 7),), ((0, 1), (4, 1)))), (0, 1))
        self.exact(square_by_number(SEAT, (((3, 7),), ((0, 1), (4, 1)))), (0, 1))
        self.exact(mixed_part(SEAT, (((3, 7),), ((0, 1), (4, 1))), (3, 4)), (0, 1))
        self.exact(mixed_part(SEAT, (((3, 7),), ((0, 1), (4, 1))), (0, 4)), (3, 2))

    def test_wide(self):
        circle = (("limits", 8, ((tuple(range(8)), 3),)), 5, (0, 1, 2, 3, 4, 0, 1, 2), ((0, 1),) * 8)
        odds = even_odds(circle)
        self.exact(least_square(circle, odds)[0] > 0, True)
        one = (SEAT[0], 2, (0, 1), ((0, 300), (0, 300)))
        self.exact(square_by_number(one, (tuple((worth, 1 + worth % 3) for worth in range(256)), ((7, 10 ** 6),))), (0, 1))

    def test_wrong_parameters(self):
        wrong = ODD_THINGS + ((), EVEN[:1], list(EVEN)) + tuple((EVEN[0], part) for part in WRONG_DRAWS)
        for thing in wrong:
            self.not_usable("odds", mixed_part, SEAT, thing, None)
            self.not_usable("odds", least_square, SEAT, thing)
            self.not_usable("odds", square_by_number, SEAT, thing)
        for thing in ODD_THINGS + ((5, 0), (0,), (), (0, 0, 0), [0, 0], (True, 0), (0, (1, 2))):
            if thing not in ((0, 0), (1, 0)):
                self.not_usable("telling", mixed_part, SEAT, EVEN, thing)
        # What is not as stated comes before what is not single.
        self.not_usable("odds", square_by_number, COURT, EVEN)

    def test_by_name(self):
        self.exact((mixed_part(telling=(4, 4), odds=EVEN, circle=SEAT), least_square(odds=EVEN, circle=SEAT),
                    square_by_number(odds=EVEN, circle=SEAT)), ((-1, 1), (1, 1), (1, 1)))
