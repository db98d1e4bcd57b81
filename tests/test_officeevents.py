from someoneout.officeevents import is_event, is_log
from tests.support import Case, EMPTY, LIMITS, ODD_THINGS, SAMPLES, SEAT

EVENTS = (("person",), ("house", SEAT[0]), ("take", 0, 1, 2, 0, 4), ("drop", 0, 1), ("narrow", 3, 1, 4, 4),
          ("tell", 0, 1, 10 ** 59), ("settle", 0, "handed"), ("settle", 7, "others"), ("settle", 0, ("refuse", 2)),
          ("settle", 0, ("promise", 0)), ("day",)) + tuple(("house", house) for house in SAMPLES)
SEVEN = ("limits", 7, ())


class Events(Case):
    def test_events(self):
        for event in EVENTS:
            self.exact(is_event(event), True)
            for wrong in (list(event), event + (0,), event[:-1], (event,), (event[0],) + event, event[1:]):
                self.exact(is_event(wrong), False)
        self.exact(is_event(("house", ("limits", 6, ()))), True)
        self.exact(is_event(("house", ("limits", 1, ()))), True)

    def test_wrong_values(self):
        for thing in ODD_THINGS + (SEAT, SEAT[0], ("persons",), ("Day",), ("",), (("day",),), (["day"],), ({},), {}, ("day", ())):
            self.exact(is_event(thing), False)
        for event in EVENTS:
            for at in range(len(event)):
                for thing in (True, False, None, -1, "", "0", (), [], [0], (0,), {}, ("refuse",), ("handed",)):
                    self.exact(is_event(event[:at] + (thing,) + event[at + 1:]), False)

    def test_houses(self):
        for house in EMPTY + (SEVEN, ("beside", (LIMITS, ("web", 1, ((0, 0),)))), ("limits", 2, (((0, 1), -1),)), SEAT,
                              ["limits", 2, ()], ("limits", 2, []), ("table", 2, (0, 1, 1, 3)), ("limits", True, ()),
                              ("limits", 10 ** 59, ())):
            self.exact(is_event(("house", house)), False)

    def test_stretches(self):
        for event, right in ((("take", 0, 0, 0, 4, 3), False), (("take", 0, 0, 9, 4, 4), True), (("narrow", 0, 0, 4, 3), False),
                             (("narrow", 0, 9, 3, 4), True), (("take", 4, 3, 2, 0, 0), True), (("tell", 9, 8, 0), True),
                             (("take", 0, 0, 0, 4, True), False), (("narrow", 0, 0, False, 4), False)):
            self.exact(is_event(event), right)

    def test_ways(self):
        for way in (("refuse", True), ("promise", -1), ("refuse", 0, 0), ["refuse", 0], ("handed", 0), ("others",), "refuse",
                    "promise", "", ("refuse", None), ("Refuse", 0), (0, "refuse"), ("refuse", "0"), None, 0, ()):
            self.exact(is_event(("settle", 0, way)), False)

    def test_logs(self):
        self.exact((is_log(()), is_log(EVENTS), is_log(EVENTS * 40)), (True, True, True))
        for thing in ODD_THINGS[:-2] + (list(EVENTS), EVENTS + (None,), (["day"],), ("day",), EVENTS[0], (("day",), 1)):
            self.exact(is_log(thing), False)
        self.exact(is_log((("house", SEVEN),)), False)

    def test_by_name(self):
        self.exact((is_event(thing=("day",)), is_log(thing=())), (True, True))
