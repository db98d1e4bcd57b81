from someoneout.circleclasses import Circle
from someoneout.leavings import full_pieces, stays
from someoneout.partclasses import Parted
from someoneout.pieces import pieces_of
from someoneout.zonehouses import zone_pieces
from someoneout.zones import zones_of
from tests.oracles import table_by_words
from tests.support import Case, EMPTY, ODD_THINGS, PAIRS, SEAT, TRIO, drawn_circles


class PartedCircles(Case):
    def test_asked(self):
        for circle in drawn_circles(109, 60):
            one = Parted(circle)
            for _ in range(2):
                self.exact(one.pieces(), pieces_of(circle[0]))
                self.exact(one.full(), full_pieces(circle))
                self.exact(one.stays(), stays(circle))
                self.exact(one.zones(), tuple((zone, zone_pieces(circle, zone)) for zone in zones_of(circle)))
                self.exact(one.told(), circle)

    def test_known_circles(self):
        self.exact(Parted(SEAT).zones(), (((0, 4), ((0, 1),)),))
        self.exact(Parted(PAIRS).pieces(), ((0, 1), (2, 3)))
        self.exact((Parted(PAIRS).stays(), Parted(TRIO).stays(), Parted(TRIO).full()), (True, False, ((0, 1, 2),)))
        for house in EMPTY:
            one = Parted((house, 2, (), ()))
            self.exact((one.pieces(), one.full(), one.stays(), one.zones()), ((), (), True, ()))

    def test_equal(self):
        circles = [SEAT, TRIO, PAIRS, (SEAT[0], 3) + SEAT[2:], (table_by_words(SEAT[0]),) + SEAT[1:],
                   SEAT[:3] + (((0, 4), (0, 5)),), SEAT[:2] + ((1, 0),) + SEAT[3:]]
        for place, circle in enumerate(circles):
            one = Parted(circle)
            for other_place, other in enumerate(circles):
                self.exact(one == Parted(other), place == other_place)
                self.exact(one != Parted(other), place != other_place)
            for thing in ODD_THINGS + (circle, list(circle), Circle(*circle), one.pieces()):
                self.exact(one == thing, False)
                self.exact(thing == one, False)

    def test_wrong_circles(self):
        for thing in ODD_THINGS + (list(SEAT), SEAT[:3], (SEAT[0], True) + SEAT[2:], (SEAT[0], 2, (0, True), SEAT[3]),
                                   (SEAT[0], 2, (0, 1), ((0, 4), [0, 4])), Circle(*SEAT), (SEAT[0], 1, (0, 0), SEAT[3]),
                                   (SEAT[0], 2, (0, 1), ((0, 4), (4, 0)))):
            self.not_usable("circle", Parted, thing)

    def test_by_name(self):
        self.exact(Parted(circle=SEAT).full(), ((0, 1),))
