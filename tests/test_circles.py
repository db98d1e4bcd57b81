from someoneout.circlechecker import lets_circle
from someoneout.circles import ends_of, is_circle, is_telling, left_out, own_lot, same_stretch
from someoneout.errors import InvalidPaper
from tests.support import BESIDE, Case, EMPTY, LIMITS, ODD_THINGS, PAIRS, SEAT, SLOTS, TABLE, TRIO, WEB

WATCH = (SEAT[0], 3, (0, 1), SEAT[3])
MANY = (LIMITS, 5, (0, 4, 0, 2, 4, 0), ((0, 4), (3, 3), (10 ** 30 - 1, 10 ** 30), (0, 0), (2, 7), (4, 5)))
BARE = (("limits", 0, ()), 2, (), ())
HOUSE = ("limits", 2, (((0, 1), 1),))


class Checker(Case):
    def wrong(self, word, at, thing):
        self.exact(is_circle(thing), False)
        self.refused(InvalidPaper, {"word": word, "at": at}, lets_circle, thing)

    def right(self, thing, people):
        self.exact(is_circle(thing), True)
        self.exact(lets_circle(thing), people)

    def test_circles(self):
        for thing, people in ((SEAT, 2), (TRIO, 3), (PAIRS, 4), (WATCH, 3), (MANY, 5), (BARE, 2)):
            self.right(thing, people)
        for house in EMPTY:
            self.right((house, 7, (), ()), 7)
        self.right((BESIDE, 2, (1,) * 5, ((0, 10 ** 59),) * 5), 2)
        self.right((SEAT[0], 10 ** 59, (0, 10 ** 58), ((0, 0), (5, 5))), 10 ** 59)

    def test_shape(self):
        for thing in ODD_THINGS + ((), SEAT[:3], SEAT + (1,), list(SEAT), SEAT[0], None):
            self.wrong("shape", -1, thing)

    def test_house(self):
        for thing in ODD_THINGS + (("limits", 2, [((0, 1), 1)]), ("limits", True, ())):
            self.wrong("house", -1, (thing, None, None, None))

    def test_people(self):
        for thing in (True, False, None, 0, 1, -2, "2", (2,), [2]):
            self.wrong("people", -1, (HOUSE, thing, None, None))

    def test_owners_and_stretches(self):
        for thing in (None, True, 0, [0, 1], "01", (), (0,), (0, 1, 0)):
            self.wrong("owners", -1, (HOUSE, 2, thing, None))
        for thing in (None, True, 0, [(0, 4), (0, 4)], "01", (), ((0, 4),), ((0, 4),) * 3):
            self.wrong("stretches", -1, (HOUSE, 2, (None, 9), thing))
        self.wrong("owners", -1, (("limits", 10 ** 59, ()), 2, (0, 1), ((0, 4), (0, 4))))

    def test_wish_by_wish(self):
        good = (0, 4)
        for thing in (True, False, None, -1, 2, "0", (0,), [0]):
            self.wrong("owner", 0, (HOUSE, 2, (thing, thing), (None, None)))
            self.wrong("owner", 1, (HOUSE, 2, (0, thing), (good, None)))
        for thing in (None, 4, (), (4,), (0, 4, 4), [0, 4], (4, 3), (-1, 4), (False, 4), (0, True), (0, "4"), "04"):
            self.wrong("stretch", 0, (HOUSE, 2, (0, None), (thing, thing)))
            self.wrong("stretch", 1, (HOUSE, 2, (0, 1), (good, thing)))


class Asking(Case):
    def test_own_lots(self):
        self.exact([own_lot(MANY, person) for person in range(5)], [(0, 2, 5), (), (3,), (), (1, 4)])
        self.exact(own_lot(WATCH, 2), ())
        self.exact(own_lot(BARE, 1), ())
        for thing in ODD_THINGS + (5,):
            if thing != 0 or thing is False:
                self.not_usable("person", own_lot, MANY, thing)

    def test_left_out(self):
        self.exact(left_out(MANY, ()), (0, 1, 2, 3, 4))
        self.exact(left_out(MANY, (0, 2, 5)), (1, 2, 3, 4))
        self.exact(left_out(MANY, (0, 1, 2, 3, 4, 5)), (1, 3))
        self.exact(left_out(TRIO, (0, 1, 2)), ())
        self.exact(left_out(WATCH, (0, 1)), (2,))
        self.exact(left_out(BARE, ()), (0, 1))
        for thing in ODD_THINGS + ((6,), (0, 1, 2, 3, 4, 5, 6)):
            self.not_usable("lot", left_out, MANY, thing)

    def test_ends(self):
        self.exact(ends_of(SEAT), (0, 4))
        self.exact(ends_of(MANY), (0, 2, 3, 4, 5, 7, 10 ** 30 - 1, 10 ** 30))
        self.exact(ends_of((TABLE, 2, (0, 0, 1), ((5, 5),) * 3)), (5,))
        self.exact(ends_of(BARE), ())

    def test_tellings(self):
        for thing in ((0, 3, 10 ** 30, 0, 7, 4), (4, 3, 10 ** 30 - 1, 0, 2, 5), (2, 3, 10 ** 30, 0, 4, 5)):
            self.exact(is_telling(MANY, thing), True)
            self.exact(is_telling(MANY, list(thing)), False)
            self.exact(is_telling(MANY, thing + (0,)), False)
            self.exact(is_telling(MANY, thing[:5]), False)
        for thing in ODD_THINGS + ((5, 4), (0, 5), (-1, 0), (True, 0), (0, False), ("0", 0), (None, 0), ((0,), 0)):
            if thing not in ((0, 0), (1, 0)):
                self.exact(is_telling(SEAT, thing), False)
        self.exact(is_telling(BARE, ()), True)
        self.exact(is_telling(BARE, (0,)), False)
        self.exact(is_telling(BARE, []), False)

    def test_same_stretch(self):
        self.exact(same_stretch(PAIRS), (0, 4))
        self.exact(same_stretch(MANY), None)
        self.exact(same_stretch(BARE), None)
        self.exact(same_stretch((HOUSE, 2, (0, 0), ((0, 4), (0, 5)))), None)
        self.exact(same_stretch((HOUSE, 2, (0, 0), ((0, 4), (1, 4)))), None)
        self.exact(same_stretch((("limits", 1, ()), 2, (1,), ((3, 3),))), (3, 3))

    def test_by_name_and_again(self):
        self.exact(own_lot(person=1, circle=SEAT), (1,))
        self.exact(left_out(lot=(1,), circle=SEAT), (0,))
        self.exact(is_telling(thing=(1, 2), circle=SEAT), True)
        self.exact(ends_of(circle=MANY), ends_of(MANY))
        for house in (SLOTS, WEB):
            circle = (house, 3, (0, 1, 2, 0, 1, 2), ((1, 2),) * 6)
            self.exact(own_lot(circle, 2), (2, 5))
            self.exact(own_lot(circle, 2), (2, 5))
