import random

from someoneout.zones import zone_lots, zones_of
from tests.support import Case, EMPTY, LIMITS, ODD_THINGS, PAIRS, SEAT, TRIO, drawn_circle, drawn_houses

LATE = (SEAT[0], 2, (0, 1), ((0, 4), (2, 6)))
MANY = (LIMITS, 5, (0, 4, 0, 2, 4, 0), ((0, 4), (3, 3), (10 ** 30 - 1, 10 ** 30), (0, 0), (2, 7), (4, 5)))
FEW = ((SEAT[0], 2, (0, 1), ((5, 5), (5, 5))), (("limits", 0, ()), 2, (), ()), (("limits", 1, ()), 2, (1,), ((0, 0),)))


class Zones(Case):
    def test_drawn_circles(self):
        dice = random.Random(65)
        for house in drawn_houses(65, 120):
            circle = drawn_circle(dice, house)
            ends = sorted({end for stretch in circle[3] for end in stretch})
            zones = tuple((s, t) for s in ends for t in ends if s < t and not any(s < end < t for end in ends))
            self.exact(zones_of(circle), zones)
            for s, t in zones:
                above = tuple(wish for wish, (low, high) in enumerate(circle[3]) if low >= t)
                below = tuple(wish for wish, (low, high) in enumerate(circle[3]) if high <= s)
                between = tuple(wish for wish, (low, high) in enumerate(circle[3]) if low < t and high > s)
                self.exact(zone_lots(circle, (s, t)), (above, below, between))

    def test_few_ends(self):
        for circle in FEW:
            self.exact(zones_of(circle), ())
        for house in EMPTY:
            self.exact(zones_of((house, 3, (), ())), ())

    def test_edges(self):
        for circle in (SEAT, TRIO, PAIRS):
            self.exact(zones_of(circle), ((0, 4),))
            self.exact(zone_lots(circle, (0, 4)), ((), (), tuple(range(len(circle[2])))))
        big = 10 ** 30
        self.exact(zones_of(MANY), ((0, 2), (2, 3), (3, 4), (4, 5), (5, 7), (7, big - 1), (big - 1, big)))
        self.exact(zone_lots(MANY, (0, 2)), ((1, 2, 4, 5), (3,), (0,)))
        self.exact(zone_lots(MANY, (2, 3)), ((1, 2, 5), (3,), (0, 4)))
        self.exact(zone_lots(MANY, (3, 4)), ((2, 5), (1, 3), (0, 4)))
        self.exact(zone_lots(MANY, (7, big - 1)), ((2,), (0, 1, 3, 4, 5), ()))
        self.exact(zone_lots(MANY, (big - 1, big)), ((), (0, 1, 3, 4, 5), (2,)))

    def test_zones_without_open_wishes(self):
        gap = (SEAT[0], 2, (0, 1), ((0, 1), (3, 4)))
        self.exact(zones_of(gap), ((0, 1), (1, 3), (3, 4)))
        self.exact(zone_lots(gap, (1, 3)), ((1,), (0,), ()))
        fixed = (SEAT[0], 2, (0, 1), ((2, 2), (7, 7)))
        self.exact(zone_lots(fixed, (2, 7)), ((1,), (0,), ()))

    def test_wrong_zones(self):
        for thing in ODD_THINGS + ((0, 4), (2, 6), (0, 6), (4, 2), [0, 2], (0, 2, 4), ((0, 2),), (0, 3), (0, "2")):
            self.not_usable("zone", zone_lots, LATE, thing)
        unit = (SEAT[0], 2, (0, 1), ((0, 1), (0, 1)))
        self.exact(zone_lots(unit, (0, 1)), ((), (), (0, 1)))
        for thing in ((0, True), (False, 1), (False, True), [0, 1], (1, 0), (0, 1, 1)):
            self.not_usable("zone", zone_lots, unit, thing)
        for circle in FEW:
            for thing in ODD_THINGS + ((), (5, 5), (0, 1)):
                self.not_usable("zone", zone_lots, circle, thing)

    def test_by_name(self):
        self.exact(zones_of(circle=LATE), zones_of(LATE))
        self.exact(zone_lots(zone=(2, 4), circle=LATE), ((), (), (0, 1)))
