import random

from someoneout.grantclasses import Grant
from someoneout.housechanges import turned_house
from someoneout.leans import lean_bases
from someoneout.leasts import term_of
from someoneout.numberclasses import Number
from someoneout.sums import number_of, signed_sum
from tests.oracles import lots_of, size_by_words, table_by_words
from tests.support import Case, EMPTY, ODD_THINGS, PAIRS, SEAT, TIED, TRIO, drawn_houses, wrong_lots
from tests.test_leans import WRONG_ORDERS


class Numbers(Case):
    def test_asked(self):
        dice = random.Random(120)
        for house in TIED + tuple(drawn_houses(120, 40)):
            one = Number(house)
            size = size_by_words(house)
            order = tuple(dice.sample(range(size), size))
            for _ in range(2):
                self.exact((one.signed(), one.number()), (signed_sum(house), number_of(house)))
                self.exact(one.lean(order), lean_bases(house, order))
                for lot in lots_of(size):
                    self.exact(one.term(lot), term_of(house, lot))
                turned = one.turned()
                self.assertIs(turned.__class__, Number)
                self.exact(turned.told(), turned_house(house))
                self.exact(one.told(), house)
            self.exact(one.turned().turned() == Number(table_by_words(house)), True)

    def test_equal(self):
        houses = [SEAT[0], TRIO[0], PAIRS[0], table_by_words(SEAT[0])] + list(EMPTY)
        for place, house in enumerate(houses):
            one = Number(house)
            self.assertIsNot(one.turned(), one)
            for other_place, other in enumerate(houses):
                self.exact(one == Number(other), place == other_place)
                self.exact(one != Number(other), place != other_place)
            for thing in ODD_THINGS + (house, list(house), one.number(), Grant(house, (0,) * size_by_words(house))):
                self.exact(one == thing, False)
                self.exact(thing == one, False)

    def test_wrong_arguments(self):
        for thing in ODD_THINGS + (list(SEAT[0]), ("limits", True, ()), ("limits", 2, [((0, 1), 1)]), SEAT):
            self.not_usable("house", Number, thing)
        one = Number(TRIO[0])
        for thing in wrong_lots(3):
            self.not_usable("lot", one.term, thing)
        for thing in WRONG_ORDERS:
            self.not_usable("order", one.lean, thing)
        self.exact(one.told(), TRIO[0])

    def test_by_name(self):
        one = Number(house=TRIO[0])
        self.exact((one.lean(order=(0, 1, 2)), one.term(lot=(0, 1, 2))), (((0, 2),), -1))
