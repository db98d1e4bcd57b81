import random
from fractions import Fraction

from someoneout.boardkinds import are_shares
from someoneout.odds import chance_from, even_odds, is_odds, mean_worth, odds_shares
from tests.oracles import (best_by_words, board_by_words, draws_by_words, end_tellings_by_words, free_lots,
                           places_by_words, quotient_by, telling_by_words)
from tests.support import Case, EMPTY, ODD_THINGS, SEAT, TRIO, drawn_circles, drawn_odds, wrong_wishes

EVEN = (((0, 1), (4, 1)), ((0, 1), (4, 1)))
BENT = (((1, 3), (4, 1)), ((0, 10 ** 6),))

WRONG_DRAWS = ODD_THINGS + ((), [(0, 1)], ((0, 1), (0, 2)), ((4, 1), (0, 1)), ((0, 0),), ((0, -1),), ((0, True),),
                            ((True, 1),), ((5, 1),), ((-1, 1),), ((0, 1, 1),), ((0,),), ([0, 1],), ((0, "1"),),
                            ((0, 1), (4, None)), ((0, 1), 4), ((None, 1),), ((0, (1,)),), ((0, 1), (5, 1)))


class Odds(Case):
    def circles(self, seed, many):
        for ends in ((0, 3, 8), (0, 10 ** 30), (0, 1)):
            yield from drawn_circles(seed, many, 5, ends)

    def test_kinds(self):
        dice = random.Random(245)
        for circle in self.circles(245, 40):
            odds = drawn_odds(dice, circle)
            self.exact((is_odds(circle, odds), is_odds(circle, odds + (((0, 1),),))), (True, False))
            if odds:
                self.exact((is_odds(circle, odds[1:]), is_odds(circle, list(odds))), (False, False))
        for thing in ODD_THINGS + ((), EVEN[:1], EVEN + EVEN[:1], list(EVEN), [list(EVEN[0]), EVEN[1]]):
            self.exact(is_odds(SEAT, thing), False)
        for thing in WRONG_DRAWS:
            self.exact((is_odds(SEAT, (EVEN[0], thing)), is_odds(SEAT, (thing, EVEN[1]))), (False, False))
        self.exact((is_odds(SEAT, EVEN), is_odds(SEAT, BENT)), (True, True))
        for house in EMPTY:
            self.exact((is_odds((house, 2, (), ()), ()), is_odds((house, 2, (), ()), EVEN)), (True, False))

    def test_even(self):
        for circle in self.circles(246, 40):
            ends = sorted({end for stretch in circle[3] for end in stretch})
            wanted = tuple(tuple((end, 1) for end in ends if low <= end <= high) for low, high in circle[3])
            self.exact(even_odds(circle), wanted)
            self.exact(is_odds(circle, wanted), True)
        self.exact((even_odds(SEAT), even_odds(((EMPTY[0]), 2, (), ()))), (EVEN, ()))

    def test_chances(self):
        dice = random.Random(247)
        for circle in self.circles(247, 30):
            odds = drawn_odds(dice, circle)
            for wish, part in enumerate(odds):
                for height in {0, 1, 3, 10 ** 30, 10 ** 59} | {worth for worth, _ in part}:
                    above = sum(weight for worth, weight in part if worth >= height)
                    chance = Fraction(above, sum(weight for _, weight in part))
                    self.exact(chance_from(odds, wish, height), quotient_by(chance))
        self.exact((chance_from(EVEN, 0, 3), chance_from(EVEN, 1, 0), chance_from(EVEN, 1, 5)), ((1, 2), (1, 1), (0, 1)))
        self.exact([chance_from(BENT, 0, height) for height in (1, 2, 4)], [(1, 1), (1, 4), (1, 4)])

    def test_means(self):
        dice = random.Random(248)
        for circle in self.circles(248, 30):
            odds = drawn_odds(dice, circle)
            free = free_lots(circle[0])
            mean = sum((chance * best_by_words(free, telling) for telling, chance in draws_by_words(odds)), Fraction(0))
            self.exact(mean_worth(circle, odds), quotient_by(mean))
        self.exact((mean_worth(SEAT, EVEN), mean_worth(SEAT, BENT), mean_worth((EMPTY[0], 2, (), ()), ())),
                   ((3, 1), (7, 4), (0, 1)))
        circle = (("limits", 8, ((tuple(range(8)), 3),)), 5, (0, 1, 2, 3, 4, 0, 1, 2), ((0, 1),) * 8)
        self.exact(mean_worth(circle, even_odds(circle)), (721, 256))

    def test_shares(self):
        dice = random.Random(249)
        many = 0
        for circle in self.circles(249, 40):
            if len(end_tellings_by_words(circle)) > 120:
                continue
            odds = drawn_odds(dice, circle, True)
            chances = dict(draws_by_words(odds))
            wanted = [chances.get(telling_by_words(circle, place), Fraction(0))
                      for place in places_by_words(board_by_words(circle)[0])]
            shares = odds_shares(circle, odds)
            self.exact(shares, tuple(quotient_by(share) for share in wanted))
            self.exact(are_shares(len(wanted), shares), True)
            other = drawn_odds(dice, circle)
            ends = {end for stretch in circle[3] for end in stretch}
            if any(worth not in ends for part in other for worth, _ in part):
                self.not_usable("odds", odds_shares, circle, other)
                many += 1
        self.assertGreater(many, 30)
        self.exact(odds_shares(SEAT, EVEN), ((1, 4),) * 4)
        self.exact(odds_shares(SEAT, (EVEN[0], ((4, 7),))), ((0, 1), (1, 2), (0, 1), (1, 2)))
        self.exact(odds_shares((EMPTY[0], 2, (), ()), ()), ((1, 1),))

    def test_wrong_parameters(self):
        for thing in ODD_THINGS + ((), EVEN[:1], list(EVEN)) + tuple((EVEN[0], part) for part in WRONG_DRAWS):
            self.not_usable("odds", mean_worth, SEAT, thing)
            self.not_usable("odds", odds_shares, SEAT, thing)
        self.not_usable("odds", odds_shares, SEAT, BENT)
        # An end of another wish is an end.
        late = (SEAT[0], 2, (0, 1), ((0, 4), (2, 6)))
        self.exact(odds_shares(late, (((2, 1),), ((4, 1),)))[4], (1, 1))
        for thing in wrong_wishes(2):
            self.not_usable("wish", chance_from, EVEN, thing, None)
        for thing in (True, False, None, -1, "0", (), (0,), [0]):
            self.not_usable("height", chance_from, EVEN, 0, thing)
        self.not_usable("odds", mean_worth, TRIO, EVEN)

    def test_by_name(self):
        self.exact((is_odds(thing=EVEN, circle=SEAT), even_odds(circle=SEAT), chance_from(height=3, wish=0, odds=EVEN),
                    mean_worth(odds=EVEN, circle=SEAT), odds_shares(odds=EVEN, circle=SEAT)),
                   (True, EVEN, (1, 2), (3, 1), ((1, 4),) * 4))
