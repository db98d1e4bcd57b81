import random
from fractions import Fraction

from someoneout.circlechanges import finer
from someoneout.losses import best_dice, dice_loss, loss_at, worst_dice, worst_loss
from tests.oracles import (best_by_words, board_by_words, end_tellings_by_words, free_lots, lots_of, number_of_lot,
                           places_by_words, quotient_by, size_by_words, table_by_words, telling_by_words,
                           worth_by_words)
from tests.support import (Case, EMPTY, ODD_THINGS, PAIRS, SEAT, TRIO, drawn_circle_telling, drawn_circles,
                           drawn_houses, wrong_wishes)
from tests.test_healing import BARRED, WRONG_DEEDS

FORCED = (("limits", 3, (((0, 1), 1),)), 2, (0, 1, 0), ((0, 4), (0, 4), (2, 5)))


def loss_by_words(circle, telling, wish, deed):
    free = free_lots(circle[0])
    left = [lot for lot in free if (wish in lot) == (deed == "promise")]
    return best_by_words(free, telling) - max(worth_by_words(telling, lot) for lot in left)


class Losses(Case):
    def circles(self, seed, many, most=81):
        for ends in ((0, 3, 8), (0, 10 ** 30), (0, 1), (1, 2, 5)):
            for circle in drawn_circles(seed, many, 5, ends):
                if len(end_tellings_by_words(circle)) <= most:
                    yield circle

    def deeds(self, circle, wish):
        return ("refuse", "promise") if (wish,) in free_lots(circle[0]) else ("refuse",)

    def test_losses(self):
        dice = random.Random(275)
        for circle in self.circles(275, 40):
            for telling in (drawn_circle_telling(dice, circle), tuple(low for low, _ in circle[3])):
                for wish in range(len(telling)):
                    for deed in self.deeds(circle, wish):
                        self.exact(loss_at(circle, telling, wish, deed), loss_by_words(circle, telling, wish, deed))
                    if (wish,) not in free_lots(circle[0]):
                        self.not_usable("deed", loss_at, circle, telling, wish, "promise")
                        self.not_usable("deed", worst_loss, circle, wish, "promise")

    def test_worst(self):
        dice = random.Random(276)
        for circle in self.circles(276, 40):
            for wish in range(len(circle[2])):
                for deed in self.deeds(circle, wish):
                    # The greatest one is at an end telling, and none in fractions is greater.
                    worst = max(loss_by_words(circle, telling, wish, deed) for telling in end_tellings_by_words(circle))
                    self.exact(worst_loss(circle, wish, deed), worst)
                    fine = finer(circle, 3)
                    for _ in range(3):
                        self.assertLessEqual(loss_at(fine, drawn_circle_telling(dice, fine), wish, deed), 3 * worst)

    def test_dice(self):
        dice = random.Random(277)
        many = [0, 0]
        for circle in self.circles(277, 40):
            size = len(circle[2])
            for deed in ("refuse", "promise"):
                if deed == "promise" and any((wish,) not in free_lots(circle[0]) for wish in range(size)):
                    self.not_usable("deed", dice_loss, circle, tuple(low for low, _ in circle[3]), deed)
                    self.not_usable("deed", worst_dice, circle, deed)
                    many[0] += 1
                    continue
                many[1] += 1
                telling = drawn_circle_telling(dice, circle)
                loss = sum(loss_by_words(circle, telling, wish, deed) for wish in range(size))
                self.exact(dice_loss(circle, telling, deed), quotient_by(Fraction(loss, max(1, size))))
                told = [telling_by_words(circle, place) for place in places_by_words(board_by_words(circle)[0])]
                losses = [sum(loss_by_words(circle, telling, wish, deed) for wish in range(size)) for telling in told]
                worst = (quotient_by(Fraction(max(losses), max(1, size))), told[losses.index(max(losses))])
                self.exact(worst_dice(circle, deed), worst)
                fine = finer(circle, 3)
                top, bottom = dice_loss(fine, drawn_circle_telling(dice, fine), deed)
                self.assertLessEqual(Fraction(top, bottom), 3 * Fraction(max(losses), max(1, size)))
        self.assertTrue(min(many) > 20, many)

    def test_best_dice(self):
        for house in drawn_houses(278, 100, 6):
            size = size_by_words(house)
            if size == 0:
                self.not_usable("house", best_dice, house, "refuse")
                continue
            ranks = table_by_words(house)[2]
            for deed in ("refuse", "promise"):
                def rank(lot):
                    if deed == "refuse":
                        return ranks[number_of_lot(lot)]
                    return len(lot) + ranks[-1 - number_of_lot(lot)] - ranks[-1]
                shares = {lot: Fraction(rank(lot), len(lot)) for lot in lots_of(size) if lot}
                given = best_dice(house, deed)
                self.assertIs(given.__class__, tuple)
                share, lot = given
                self.exact(share, quotient_by(min(shares.values())))
                self.assertEqual(shares[lot], min(shares.values()))

    def test_known(self):
        self.exact((loss_at(SEAT, (3, 1), 0, "refuse"), loss_at(SEAT, (3, 1), 1, "refuse"),
                    loss_at(SEAT, (3, 1), 1, "promise")), (2, 0, 2))
        self.exact((worst_dice(SEAT, "refuse"), best_dice(SEAT[0], "refuse")), (((2, 1), (0, 4)), ((1, 2), (0, 1))))
        self.exact((worst_dice(SEAT, "promise"), dice_loss(SEAT, (3, 1), "refuse"), dice_loss(SEAT, (3, 1), "promise")),
                   (((2, 1), (0, 4)), (1, 1), (1, 1)))
        self.exact((worst_loss(TRIO, 0, "refuse"), worst_loss(TRIO, 0, "promise"), worst_loss(PAIRS, 3, "refuse")), (4, 4, 4))
        self.exact((worst_loss(FORCED, 2, "refuse"), worst_loss(FORCED, 2, "promise"), loss_at(FORCED, (1, 1, 2), 2, "refuse")),
                   (5, 0, 2))
        self.exact((loss_at(BARRED, (1, 2, 4), 2, "refuse"), worst_loss(BARRED, 2, "refuse")), (0, 0))
        self.not_usable("deed", dice_loss, BARRED, (1, 2, 4), "promise")
        self.exact(dice_loss(BARRED, (1, 2, 4), "refuse"), (1, 3))
        # A forced wish can only be lost, a barred one never.
        self.exact((best_dice(FORCED[0], "promise"), best_dice(BARRED[0], "refuse")), (((0, 1), (2,)), ((0, 1), (2,))))
        for house in EMPTY:
            circle = (house, 2, (), ())
            for deed in ("refuse", "promise"):
                self.exact((dice_loss(circle, (), deed), worst_dice(circle, deed)), ((0, 1), ((0, 1), ())))
                self.not_usable("house", best_dice, house, deed)

    def test_wrong_parameters(self):
        for thing in ODD_THINGS + ((5, 0), (0,), (), (0, 0, 0), [0, 0], (True, 0), (0, (1, 2))):
            if thing not in ((0, 0), (1, 0)):
                self.not_usable("telling", loss_at, SEAT, thing, None, None)
                self.not_usable("telling", dice_loss, SEAT, thing, None)
        for thing in wrong_wishes(2):
            self.not_usable("wish", loss_at, SEAT, (0, 0), thing, None)
            self.not_usable("wish", worst_loss, SEAT, thing, None)
        for thing in WRONG_DEEDS:
            self.not_usable("deed", loss_at, SEAT, (0, 0), 0, thing)
            self.not_usable("deed", worst_loss, SEAT, 0, thing)
            self.not_usable("deed", dice_loss, SEAT, (0, 0), thing)
            self.not_usable("deed", worst_dice, SEAT, thing)
            self.not_usable("deed", best_dice, SEAT[0], thing)
            self.not_usable("deed", worst_dice, (EMPTY[0], 2, (), ()), thing)
            self.not_usable("house", best_dice, EMPTY[0], thing)

    def test_by_name(self):
        self.exact((loss_at(deed="refuse", wish=0, telling=(3, 1), circle=SEAT), worst_loss(deed="refuse", wish=0, circle=SEAT),
                    dice_loss(deed="refuse", telling=(3, 1), circle=SEAT), worst_dice(deed="refuse", circle=SEAT),
                    best_dice(deed="refuse", house=SEAT[0])), (2, 4, (1, 1), ((2, 1), (0, 4)), ((1, 2), (0, 1))))
