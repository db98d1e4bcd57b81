from someoneout.circlechanges import beside_circles, finer, kept_circle
from someoneout.circleclasses import Circle
from someoneout.circles import left_out, own_lot
from someoneout.errors import NotUsable
from tests.oracles import lots_of
from tests.support import Case, ODD_THINGS, PAIRS, SEAT, TRIO
from tests.test_circles import BARE, MANY, WATCH

ALL = (SEAT, TRIO, PAIRS, MANY, WATCH, BARE)


class Circles(Case):
    def test_told_and_asked(self):
        for circle in ALL:
            one = Circle(*circle)
            self.exact(one.told(), circle)
            self.exact(len(one), len(circle[2]))
            for person in range(circle[1]):
                self.exact(one.own(person), own_lot(circle, person))
            for lot in lots_of(len(circle[2])):
                self.exact(one.leaves_out(lot), left_out(circle, lot))
            self.exact(one.told(), circle)

    def test_changed(self):
        for circle in ALL:
            one = Circle(*circle)
            made = one.finer(3)
            self.assertIs(made.__class__, Circle)
            self.exact(made.told(), finer(circle, 3))
            for lot in lots_of(len(circle[2])):
                self.assertIs(one.kept(lot).__class__, Circle)
                self.exact(one.kept(lot).told(), kept_circle(circle, lot))
            both = one + one
            self.assertIs(both.__class__, Circle)
            self.exact(both.told(), beside_circles(circle, circle))
            self.exact(len(both), 2 * len(circle[2]))
            self.exact(one.told(), circle)

    def test_added(self):
        self.exact((Circle(*WATCH) + Circle(*TRIO)).told(), beside_circles(WATCH, TRIO))
        for thing in ODD_THINGS + (SEAT, TRIO, Circle(*TRIO)):
            with self.assertRaises(NotUsable) as caught:
                Circle(*SEAT) + thing
            self.exact(vars(caught.exception), {"word": "other", "at": -1})

    def test_equal(self):
        for place, circle in enumerate(ALL):
            for other_place, other in enumerate(ALL):
                self.exact(Circle(*circle) == Circle(*other), place == other_place)
                self.exact(Circle(*circle) != Circle(*other), place != other_place)
            for thing in ODD_THINGS + (circle, list(circle), len(circle[2]), circle[0]):
                self.exact(Circle(*circle) == thing, False)
                self.exact(thing == Circle(*circle), False)
        self.exact(Circle(*SEAT) == Circle(("table", 2, (0, 1, 1, 1)), 2, (0, 1), SEAT[3]), False)

    def test_wrong_parameters(self):
        good = SEAT
        for thing in ODD_THINGS + (("limits", 2, [((0, 1), 1)]),):
            self.not_usable("house", Circle, thing, None, None, None)
        for thing in (True, None, 0, 1, -2, "2", (2,), [2]):
            self.not_usable("people", Circle, good[0], thing, None, None)
        for thing in (None, 0, [0, 1], (), (0,), (0, 1, 1), (0, 2), (0, -1), (0, True), (False, 1), (0, None), "01"):
            self.not_usable("owners", Circle, good[0], 2, thing, None)
        for thing in (None, 0, [(0, 4), (0, 4)], (), ((0, 4),), ((0, 4),) * 3, ((0, 4), (4, 0)), ((0, 4), [0, 4]),
                      ((0, 4), (0, True)), ((0, 4), None), ((0, 4), (-1, 4)), ((0, 4), (0, 4, 4))):
            self.not_usable("stretches", Circle, good[0], 2, (0, 1), thing)

    def test_wrong_arguments(self):
        one = Circle(*SEAT)
        for thing in ODD_THINGS + (2,):
            if thing != 0 or thing is False:
                self.not_usable("person", one.own, thing)
        for thing in ODD_THINGS + ((2,),):
            self.not_usable("lot", one.leaves_out, thing)
            self.not_usable("lot", one.kept, thing)
        for thing in (0, -1, True, None, "2", (2,), [2]):
            self.not_usable("many", one.finer, thing)
        self.exact(one.told(), SEAT)

    def test_by_name(self):
        one = Circle(stretches=SEAT[3], owners=SEAT[2], people=SEAT[1], house=SEAT[0])
        self.exact(one.told(), SEAT)
        self.exact(one.own(person=1), (1,))
        self.exact(one.leaves_out(lot=(1,)), (0,))
        self.exact(one.finer(many=2).told(), finer(SEAT, 2))
        self.exact(one.kept(lot=()).told(), kept_circle(SEAT, ()))
