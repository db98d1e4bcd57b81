import random

from someoneout.housechecker import is_house
from someoneout.zonehouses import zone_house, zone_pieces
from someoneout.zones import zone_lots, zones_of
from tests.oracles import free_lots, lots_of, number_of_lot, pieces_by_rings, rank_by_free, rings_by_free
from tests.support import Case, ODD_THINGS, SEAT, TRIO, drawn_circle, drawn_houses
from tests.test_zones import FEW, LATE, MANY


class ZoneHouses(Case):
    def agrees(self, circle):
        free = free_lots(circle[0])
        for zone in zones_of(circle):
            above, _, between = zone_lots(circle, zone)
            lots = sorted(lots_of(len(between)), key=number_of_lot)
            high = rank_by_free(free, above)
            ranks = [rank_by_free(free, set(above) | {between[wish] for wish in lot}) - high for lot in lots]
            house = ("table", len(between), tuple(ranks))
            self.exact(zone_house(circle, zone), house)
            self.assertTrue(is_house(house))
            inner = [lot for lot in lots if ranks[number_of_lot(lot)] == len(lot)]
            pieces = pieces_by_rings(len(between), rings_by_free(len(between), inner))
            self.exact(zone_pieces(circle, zone), tuple(tuple(between[wish] for wish in piece) for piece in pieces))

    def test_drawn_circles(self):
        dice = random.Random(66)
        for house in drawn_houses(66, 150):
            self.agrees(drawn_circle(dice, house))
            self.agrees(drawn_circle(dice, house, (0, 1, 2)))
        for circle in (SEAT, TRIO, LATE, MANY):
            self.agrees(circle)

    def test_zones_of_late(self):
        self.exact([zone_house(LATE, zone) for zone in zones_of(LATE)],
                   [("table", 1, (0, 0)), ("table", 2, (0, 1, 1, 1)), ("table", 1, (0, 1))])
        self.exact([zone_pieces(LATE, zone) for zone in zones_of(LATE)], [((0,),), ((0, 1),), ((1,),)])

    def test_high_wishes_that_are_not_free(self):
        circle = (TRIO[0], 2, (0, 1, 0), ((5, 6), (5, 5), (0, 9)))
        self.exact(zone_house(circle, (0, 5)), ("table", 1, (0, 0)))
        seat = (("limits", 4, (((0, 1, 2), 1),)), 2, (0, 1, 0, 1), ((5, 6), (5, 5), (0, 5), (0, 5)))
        self.exact(zone_house(seat, (0, 5)), ("table", 2, (0, 0, 1, 1)))
        self.exact(zone_pieces(seat, (0, 5)), ((2,), (3,)))

    def test_high_wishes_tie_others_or_part_them(self):
        web = ("web", 4, ((0, 1), (1, 2), (2, 3), (0, 3)))
        circle = (web, 2, (0, 1, 0, 1), ((9, 9), (0, 5), (0, 5), (0, 5)))
        self.exact(zone_pieces(circle, (0, 5)), ((1, 2, 3),))
        chord = ("web", 4, ((0, 1), (1, 2), (2, 3), (0, 3), (0, 2)))
        circle = (chord, 2, (0, 1, 0, 1, 1), ((0, 5), (0, 5), (0, 5), (0, 5), (9, 9)))
        self.exact(zone_pieces(circle, (0, 5)), ((0, 1), (2, 3)))

    def test_without_open_wishes(self):
        gap = (SEAT[0], 2, (0, 1), ((0, 1), (3, 4)))
        self.exact(zone_house(gap, (1, 3)), ("table", 0, (0,)))
        self.exact(zone_pieces(gap, (1, 3)), ())

    def test_wrong_zones(self):
        for thing in ODD_THINGS + ((0, 4), (2, 6), [0, 2], (0, 2, 4), (4, 2)):
            self.not_usable("zone", zone_house, LATE, thing)
            self.not_usable("zone", zone_pieces, LATE, thing)
        unit = (SEAT[0], 2, (0, 1), ((0, 1), (0, 1)))
        for thing in ((0, True), (False, 1), [0, 1]):
            self.not_usable("zone", zone_house, unit, thing)
            self.not_usable("zone", zone_pieces, unit, thing)
        for circle in FEW:
            self.not_usable("zone", zone_house, circle, (0, 5))
            self.not_usable("zone", zone_pieces, circle, ())

    def test_by_name(self):
        self.exact(zone_house(zone=(0, 2), circle=LATE), ("table", 1, (0, 0)))
        self.exact(zone_pieces(zone=(2, 4), circle=LATE), ((0, 1),))
