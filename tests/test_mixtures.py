import random
from fractions import Fraction

from someoneout.endboards import board_of
from someoneout.mixtures import mean_over, mixture_of
from tests.oracles import (end_tellings_by_words, fraction_of, mixture_by_words, places_by_words, quotient_by,
                           telling_by_words)
from tests.support import (Case, EMPTY, ODD_THINGS, SEAT, TRIO, WRONG_QUOTIENTS, drawn_circle_telling, drawn_circles,
                           drawn_quotient)

ENDS = (0, 3, 8)


def drawn_tellings_of(dice, circle, many=3):
    """Tellings by chance, all at their lows, all at their highs, and such with many equal lifts."""
    yield tuple(low for low, _ in circle[3])
    yield tuple(high for _, high in circle[3])
    for _ in range(many):
        yield drawn_circle_telling(dice, circle)
    yield tuple((low + high) // 2 for low, high in circle[3])


class Mixtures(Case):
    def circles(self, seed, many):
        for ends in (ENDS, (0, 10 ** 30), (0, 7)):
            for circle in drawn_circles(seed, many, 4, ends):
                if len(end_tellings_by_words(circle)) <= 120:
                    yield circle

    def test_drawn_circles(self):
        dice = random.Random(185)
        for circle in self.circles(185, 60):
            for telling in drawn_tellings_of(dice, circle):
                pairs = mixture_of(circle, telling)
                self.exact(pairs, mixture_by_words(circle, telling))
                self.assertEqual(sum(fraction_of(weight) for _, weight in pairs), 1)
                self.assertTrue(all(weight[0] > 0 for _, weight in pairs))
                for at, worth in enumerate(telling):
                    self.assertEqual(sum(told[at] * fraction_of(weight) for told, weight in pairs), worth)

    def test_means(self):
        dice = random.Random(186)
        for circle in self.circles(186, 30):
            counts = board_of(circle)[0]
            row = tuple(drawn_quotient(dice) for _ in places_by_words(counts))
            told = {telling_by_words(circle, place): fraction_of(quotient)
                    for place, quotient in zip(places_by_words(counts), row)}
            for telling in drawn_tellings_of(dice, circle, 2):
                mean = sum((told[end] * fraction_of(weight) for end, weight in mixture_by_words(circle, telling)),
                           Fraction(0))
                self.exact(mean_over(circle, row, telling), quotient_by(mean))

    def test_known(self):
        self.exact(mixture_of(SEAT, (1, 3)), (((0, 0), (1, 4)), ((0, 4), (1, 2)), ((4, 4), (1, 4))))
        self.exact(mean_over(SEAT, ((0, 1), (4, 1), (4, 1), (4, 1)), (1, 3)), (3, 1))
        self.exact(mixture_of(SEAT, (2, 2)), (((0, 0), (1, 2)), ((4, 4), (1, 2))))
        self.exact(mixture_of(SEAT, (0, 4)), (((0, 4), (1, 1)),))
        self.exact(mixture_of(TRIO, (4, 1, 0)), (((4, 0, 0), (3, 4)), ((4, 4, 0), (1, 4))))
        # Another wish's end within the stretch parts it.
        late = (SEAT[0], 2, (0, 1), ((0, 4), (2, 6)))
        self.exact(mixture_of(late, (3, 2)), (((2, 2), (1, 2)), ((4, 2), (1, 2))))
        self.exact(mixture_of(late, (1, 5)), (((0, 4), (1, 2)), ((2, 6), (1, 2))))
        for house in EMPTY:
            circle = (house, 2, (), ())
            self.exact((mixture_of(circle, ()), mean_over(circle, ((-2, 3),), ())), ((((), (1, 1)),), (-2, 3)))

    def test_wrong_tellings(self):
        odd = tuple(thing for thing in ODD_THINGS if thing not in ((0, 0), (1, 0)))
        row = ((0, 1),) * 4
        for thing in odd + ((5, 0), (0, 5), (0,), (), (0, 0, 0), [0, 0], (True, 0), (0, (1, 2)), (0, None)):
            self.not_usable("telling", mixture_of, SEAT, thing)
            self.not_usable("telling", mean_over, SEAT, row, thing)

    def test_wrong_rows(self):
        row = ((0, 1),) * 4
        for thing in ODD_THINGS + ((), row[1:], row + row[:1], list(row)):
            self.not_usable("row", mean_over, SEAT, thing, None)
        for thing in WRONG_QUOTIENTS:
            self.not_usable("row", mean_over, SEAT, row[:3] + (thing,), (0, 0))

    def test_by_name(self):
        self.exact(mixture_of(telling=(2, 2), circle=SEAT), (((0, 0), (1, 2)), ((4, 4), (1, 2))))
        self.exact(mean_over(telling=(2, 2), row=((1, 1), (0, 1), (0, 1), (2, 1)), circle=SEAT), (3, 2))
