import random

from someoneout.errors import InvalidRow, InvalidText
from someoneout.eventreadings import read_event, read_log
from someoneout.eventtexts import event_line, log_text
from tests.oracles import size_by_words
from tests.support import BESIDE, Case, EMPTY, LIMITS, ODD_THINGS, ROWS, SAMPLES, SEAT, SLOTS, TABLE, WEB, random_houses
from tests.test_officeevents import EVENTS
from tests.test_replaying import WRONG_LOGS, drawn_log

LINES = ((("person",), "person"), (("day",), "day"), (("take", 0, 1, 2, 0, 4), "take 0 1 2 0 4"),
         (("drop", 0, 1), "drop 0 1"), (("narrow", 3, 1, 4, 4), "narrow 3 1 4 4"), (("tell", 0, 1, 7), "tell 0 1 7"),
         (("settle", 0, "handed"), "settle 0 handed"), (("settle", 7, "others"), "settle 7 others"),
         (("settle", 0, ("refuse", 2)), "settle 0 refuse 2"), (("settle", 9, ("promise", 0)), "settle 9 promise 0"),
         (("tell", 0, 1, 10 ** 59), "tell 0 1 1" + "0" * 59), (("house", SEAT[0]), "house limits 2 ; 0 1 : 1"),
         (("house", LIMITS), "house limits 6 ; 0 1 2 3 : 2 ; 0 1 : 1 ; 4 : 0"),
         (("house", SLOTS), "house slots 4 ; 0 1 ; 0 ; 1 ; - ; 2 3 ; 0 1"),
         (("house", WEB), "house web 4 ; 0 1 ; 1 2 ; 0 2 ; 2 2 ; 0 1 ; 2 3"),
         (("house", ROWS), "house rows 3 ; 1 0 ; 0 1 ; 1 1 ; 2 2 ; 0 0"),
         (("house", TABLE), "house table 3 ; 0 1 1 1 0 1 1 1"),
         (("house", BESIDE), "house limits 2 ; 0 1 : 1 + web 2 ; 0 1 ; 0 1 + rows 2 ; 1"),
         (("house", ("limits", 6, ())), "house limits 6"))


class Lines(Case):
    def test_there_and_back(self):
        for event, line in LINES:
            self.exact(event_line(event), line)
            self.exact(read_event(line), event)
            self.exact((log_text((event,)), read_log(line)), (line, (event,)))
        for event in EVENTS:
            self.exact(read_event(event_line(event)), event)

    def test_logs(self):
        log = tuple(event for event, _ in LINES)
        text = "\n".join(line for _, line in LINES)
        self.exact((log_text(log), read_log(text)), (text, log))
        self.exact((log_text(()), read_log("")), ("", ()))
        dice = random.Random(320)
        for _ in range(30):
            log, _ = drawn_log(dice, 3, 40)
            self.exact(read_log(log_text(log)), log)
        houses = tuple(("house", house) for house in list(random_houses(321, 60)) + list(SAMPLES)
                       if 1 <= size_by_words(house) <= 6)
        self.exact(read_log(log_text(houses)), houses)

    def test_wrong_parameters(self):
        for thing in ODD_THINGS + (SEAT[0], list(EVENTS[2]), ("take", 0, 0, 0, 4, 3), ("house", EMPTY[0]), "day", EVENTS):
            self.not_usable("event", event_line, thing)
        for thing in WRONG_LOGS:
            self.not_usable("log", log_text, thing)

    def test_by_name(self):
        self.exact((event_line(event=("day",)), log_text(log=(("day",),)), read_event(text="day"), read_log(text="day\nday")),
                   ("day", "day", ("day",), (("day",), ("day",))))


class Readings(Case):
    def wrong_text(self, field, text, line=0):
        self.refused(InvalidText, {"line": line, "field": field}, read_log, text)
        if "\n" not in text and text != "":
            self.refused(InvalidText, {"line": 0, "field": field}, read_event, text)

    def test_spoilt_fields(self):
        # A sign, a leading zero, a doubled blank, a field left out or put in, another word.
        for event, line in LINES:
            if event[0] == "house":
                continue
            fields = line.split(" ")
            for at in range(len(fields)):
                for spoilt in ("-1", "+1", "01", "00", "x", "1.0", ";", "1_0", "Day", "handedx", "refuse", "0x1"):
                    if spoilt != "refuse" or fields[at] not in ("handed", "others", "promise", "refuse"):
                        self.wrong_text(at, " ".join(fields[:at] + [spoilt] + fields[at + 1:]))
                self.wrong_text(at, " ".join(fields[:at] + [""] + fields[at:]))
                if len(fields) > 1:
                    self.wrong_text(at, " ".join(fields[:at] + [""] + fields[at + 1:]))
            for at in range(1, len(fields)):
                # It ends too soon.
                self.wrong_text(at, " ".join(fields[:at]))
            for more in ("0", "", "day", "handed", ";"):
                self.wrong_text(len(fields), line + " " + more)

    def test_left_out(self):
        self.wrong_text(5, "take 0 1 2 3")
        self.wrong_text(2, "settle 0")
        self.wrong_text(2, "settle 0 0")
        self.wrong_text(3, "settle 0 refuse")
        self.wrong_text(3, "settle 0 handed 2")
        self.wrong_text(4, "settle 0 promise 2 3")
        self.wrong_text(1, "settle handed")
        self.wrong_text(3, "narrow 0 1")
        self.wrong_text(1, "day 0")
        self.wrong_text(1, "person ")
        self.wrong_text(0, " day")
        self.wrong_text(0, "limits 2 ; 0 1 : 1")
        self.wrong_text(0, "persons")
        self.refused(InvalidText, {"line": 0, "field": 0}, read_event, "")

    def test_houses(self):
        for field, text in ((1, "house"), (1, "house "), (1, "house beside"), (2, "house limits"), (2, "house limits x"),
                            (3, "house limits 2 0"), (4, "house limits 2 ;"), (6, "house limits 2 ; 0 1"), (4, "house limits 2 ; : 1"),
                            (7, "house limits 2 ; 0 1 :"), (8, "house limits 2 ; 0 1 : 1 0"), (9, "house limits 2 ; 0 1 : 1 ;"),
                            (6, "house web 2 ; 0 1 1"), (5, "house web 2 ; 0"), (4, "house slots 2 ;"), (5, "house slots 2 ; - 0"),
                            (3, "house table 2"), (4, "house table 2 ;"), (6, "house table 1 ; 0 1 ;"), (6, "house table 1 ; 0 1 ; 0"),
                            (9, "house limits 2 ; 0 1 : 1 +"), (9, "house limits 2 ; 0 1 : 1 + house web 1"), (3, "house web 1 |")):
            self.wrong_text(field, text)

    def test_rows(self):
        for line, row in (("take 0 1 2 4 3", ("take", 0, 1, 2, 4, 3)), ("narrow 0 1 4 3", ("narrow", 0, 1, 4, 3)),
                          ("house limits 0", ("house", ("limits", 0, ()))), ("house limits 7", ("house", ("limits", 7, ()))),
                          ("house limits 2 ; 0 2 : 1", ("house", ("limits", 2, (((0, 2), 1),)))),
                          ("house table 1 ; 0 2", ("house", ("table", 1, (0, 2)))),
                          ("house web 2 ; 1 0", ("house", ("web", 2, ((1, 0),)))),
                          ("house rows 4 ; 0", ("house", ("rows", 4, ((0,),)))),
                          ("house limits 3 + limits 4", ("house", ("beside", (("limits", 3, ()), ("limits", 4, ()))))),
                          ("house slots 2 ; 1 0", ("house", ("slots", 2, ((1, 0),))))):
            self.refused(InvalidRow, {"row": row}, read_event, line)
            self.refused(InvalidRow, {"row": row}, read_log, line)

    def test_first_line_decides(self):
        self.refused(InvalidText, {"line": 1, "field": 2}, read_log, "day\ntell 0 x 1\ntake 0 0 0 4 3")
        self.refused(InvalidRow, {"row": ("take", 0, 0, 0, 4, 3)}, read_log, "day\ntake 0 0 0 4 3\ntell 0 x 1")
        self.refused(InvalidRow, {"row": ("narrow", 0, 0, 4, 3)}, read_log, "narrow 0 0 4 3\ntake 0 0 0 4 3")
        self.refused(InvalidText, {"line": 2, "field": 0}, read_log, "day\nday\n")
        self.refused(InvalidText, {"line": 0, "field": 0}, read_log, "\nday")
        self.refused(InvalidText, {"line": 0, "field": 0}, read_log, "\n")
        self.refused(InvalidText, {"line": 1, "field": 0}, read_log, "day\n\nday")
        self.refused(InvalidText, {"line": 0, "field": 1}, read_log, "day \nday")
        self.refused(InvalidText, {"line": 1, "field": 0}, read_log, "day\n day")
        # An event that an office would refuse is none that the readers refuse.
        self.exact(read_log("drop 9 9\nday"), (("drop", 9, 9), ("day",)))

    def test_wrong_texts(self):
        for function in (read_event, read_log):
            for thing in [thing for thing in ODD_THINGS if not isinstance(thing, str)] + [["day"], b"day", ("day",)]:
                self.not_usable("text", function, thing)
            for sign in ("\t", "\r", "%", "\x7f", "\x00", "\xe9", "\u0661"):
                self.not_usable("text", function, "day" + sign)
                self.not_usable("text", function, "tell 0 0 " + sign)
        for text in ("day\n", "\n", "day\nday", "tell 0 x 1\n"):
            self.not_usable("text", read_event, text)
        self.not_usable("text", read_log, "tell x\nday%")
