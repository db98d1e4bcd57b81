import random

from someoneout.circleclasses import Circle
from someoneout.gates import gate_of
from someoneout.grantclasses import Grant
from someoneout.grants import best_worth, granted
from someoneout.heirs import heir_of
from someoneout.worthchanges import put_worth
from tests.oracles import size_by_words, table_by_words
from tests.support import (Case, EMPTY, ODD_THINGS, SAMPLES, SEAT, TRIO, drawn_houses, drawn_tellings,
                           wrong_tellings, wrong_wishes)


class Grants(Case):
    def test_asked(self):
        dice = random.Random(57)
        for house in drawn_houses(57, 40):
            for telling in drawn_tellings(dice, size_by_words(house), 1):
                one = Grant(house, telling)
                lot = granted(house, telling)
                self.exact(one.lot(), lot)
                self.exact(one.worth(), best_worth(house, telling))
                for wish in range(len(telling)):
                    self.exact(one.gate(wish), gate_of(house, telling, wish))
                    if wish in lot:
                        self.exact(one.heir(wish), heir_of(house, telling, wish))
                    else:
                        self.not_usable("wish", one.heir, wish)
                    made = one.put(wish, 6)
                    self.assertIs(made.__class__, Grant)
                    self.exact(made.told(), (house, put_worth(telling, wish, 6)))
                    self.assertEqual(made == one, telling[wish] == 6)
                self.exact(one.told(), (house, telling))
                self.exact((one.lot(), one.worth()), (lot, best_worth(house, telling)))

    def test_does_not_change(self):
        one = Grant(TRIO[0], (1, 3, 1))
        two = one.put(0, 2).put(2, 4)
        self.exact(two.told(), (TRIO[0], (2, 3, 4)))
        self.exact(two.lot(), (1, 2))
        self.exact(one.told(), (TRIO[0], (1, 3, 1)))
        self.exact(one.put(1, 3) == one, True)
        self.assertIsNot(one.put(1, 3), one)
        self.not_usable("worth", one.put, 0, -1)
        self.not_usable("wish", one.gate, 3)
        self.exact(one.told(), (TRIO[0], (1, 3, 1)))

    def test_equal(self):
        grants = [Grant(SEAT[0], (1, 2)), Grant(SEAT[0], (2, 1)), Grant(table_by_words(SEAT[0]), (1, 2)),
                  Grant(TRIO[0], (1, 2, 0)), Grant(EMPTY[0], ()), Grant(EMPTY[1], ())]
        for place, one in enumerate(grants):
            for other_place, other in enumerate(grants):
                self.exact(one == Grant(*other.told()), place == other_place)
                self.exact(one != Grant(*other.told()), place != other_place)
            for thing in ODD_THINGS + (one.told(), list(one.told()), Circle(*SEAT), one.lot(), one.worth()):
                self.exact(one == thing, False)
                self.exact(thing == one, False)
                self.exact(one != thing, True)

    def test_wrong_parameters(self):
        for thing in ODD_THINGS + (("limits", 2, [((0, 1), 1)]), ["limits", 0, ()], ("limits", True, ())):
            self.not_usable("house", Grant, thing, None)
            self.not_usable("house", Grant, thing, (1, 2))
        for house in SAMPLES:
            for thing in wrong_tellings(size_by_words(house)):
                self.not_usable("telling", Grant, house, thing)
        self.not_usable("telling", Grant, EMPTY[0], (0,))
        self.not_usable("telling", Grant, EMPTY[0], [])

    def test_wrong_arguments(self):
        one = Grant(SEAT[0], (3, 5))
        for thing in wrong_wishes(2):
            self.not_usable("wish", one.gate, thing)
            self.not_usable("wish", one.heir, thing)
            self.not_usable("wish", one.put, thing, None)
        self.not_usable("wish", one.heir, 0)
        for thing in (True, False, None, -1, "1", (1,), [1]):
            self.not_usable("worth", one.put, 1, thing)

    def test_by_name(self):
        one = Grant(telling=(3, 5), house=SEAT[0])
        self.exact((one.gate(wish=0), one.heir(wish=1)), (5, 0))
        self.exact(one.put(worth=6, wish=0).told(), (SEAT[0], (6, 5)))
