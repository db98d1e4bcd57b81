from someoneout.circlechanges import beside_circles, finer, kept_circle, narrowed
from someoneout.circles import is_circle
from someoneout.housechanges import kept_house
from someoneout.houses import beside
from tests.oracles import lots_of
from tests.support import BESIDE, Case, ODD_THINGS, PAIRS, SEAT, TRIO
from tests.test_circles import BARE, MANY, WATCH


class Changes(Case):
    def test_finer(self):
        self.exact(finer(SEAT, 1), SEAT)
        self.exact(finer(SEAT, 3), SEAT[:3] + (((0, 12), (0, 12)),))
        self.exact(finer(MANY, 10 ** 30)[3][2], ((10 ** 30 - 1) * 10 ** 30, 10 ** 60))
        self.exact(finer(BARE, 2), BARE)
        for thing in (0, -1, True, None, "2", (2,), [2]):
            self.not_usable("many", finer, SEAT, thing)

    def test_kept(self):
        for circle in (SEAT, PAIRS, MANY, BARE, WATCH):
            for lot in lots_of(len(circle[2])):
                wanted = (kept_house(circle[0], lot), circle[1], tuple(circle[2][wish] for wish in lot),
                          tuple(circle[3][wish] for wish in lot))
                self.exact(kept_circle(circle, lot), wanted)
                self.assertTrue(is_circle(wanted))
        for thing in ODD_THINGS + ((3,), (0, 1, 2, 3)):
            self.not_usable("lot", kept_circle, TRIO, thing)

    def test_narrowed(self):
        self.exact(narrowed(TRIO, 1, 1, 3), TRIO[:3] + (((0, 4), (1, 3), (0, 4)),))
        self.exact(narrowed(TRIO, 0, 0, 4), TRIO)
        self.exact(narrowed(TRIO, 2, 4, 4), TRIO[:3] + (((0, 4), (0, 4), (4, 4)),))
        self.exact(narrowed(TRIO, 2, 0, 0), TRIO[:3] + (((0, 4), (0, 4), (0, 0)),))
        for thing in (3, -1, True, None, "1", (1,), [1]):
            self.not_usable("wish", narrowed, TRIO, thing, None, None)
        for thing in (5, -1, True, None, "1", (1,), [1]):
            self.not_usable("low", narrowed, TRIO, 1, thing, None)
            self.not_usable("high", narrowed, TRIO, 1, 2, thing)
        self.not_usable("high", narrowed, TRIO, 1, 2, 1)
        self.not_usable("low", narrowed, MANY, 4, 1, 7)
        self.not_usable("high", narrowed, MANY, 4, 2, 8)
        self.not_usable("wish", narrowed, BARE, 0, 0, 0)

    def test_beside(self):
        self.exact(beside_circles(SEAT, SEAT),
                   (("beside", (SEAT[0], SEAT[0])), 2, (0, 1, 0, 1), ((0, 4),) * 4))
        self.exact(beside_circles(WATCH, TRIO), (beside(SEAT[0], TRIO[0]), 3, (0, 1, 0, 1, 2), ((0, 4),) * 5))
        long = (BESIDE, 2, (0, 1, 1, 0, 0), ((1, 2), (3, 4), (5, 6), (7, 8), (9, 9)))
        both = (("beside", BESIDE[1] + (SEAT[0],)), 2, long[2] + (0, 1), long[3] + SEAT[3])
        self.exact(beside_circles(long, SEAT), both)
        self.exact(beside_circles(BARE, SEAT), (("beside", (BARE[0], SEAT[0])), 2, (0, 1), SEAT[3]))
        for thing in ODD_THINGS + (TRIO, WATCH, list(SEAT), SEAT[:3], SEAT[0], (SEAT[0], True, (0, 0), SEAT[3])):
            self.not_usable("other", beside_circles, SEAT, thing)

    def test_by_name(self):
        self.exact(finer(many=2, circle=SEAT), finer(SEAT, 2))
        self.exact(kept_circle(lot=(1,), circle=SEAT), kept_circle(SEAT, (1,)))
        self.exact(narrowed(high=3, low=2, wish=1, circle=SEAT), narrowed(SEAT, 1, 2, 3))
        self.exact(beside_circles(other=SEAT, circle=SEAT), beside_circles(SEAT, SEAT))
