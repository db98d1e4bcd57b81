import copy
import random

from someoneout.errors import InvalidEvent, LiveError, NothingToUndo, OutError
from someoneout.officeasks import OfficeAsks
from someoneout.offices import Office
from tests.officebook import Book, drawn_event, office_state
from tests.support import Case, EMPTY, LIMITS, ODD_THINGS, PAIRS, SEAT
from tests.test_officeevents import EVENTS

TWO = ("limits", 2, (((0, 1), 1),))
METHODS = {"person": "person", "house": "house_in", "take": "take", "drop": "drop", "narrow": "narrow", "tell": "tell",
           "settle": "settle", "day": "day"}
SETTLED = (("house", TWO), ("take", 0, 0, 0, 0, 4), ("take", 0, 1, 1, 0, 4), ("tell", 0, 0, 3), ("tell", 0, 1, 1),
           ("settle", 0, "others"))


def done(people, events):
    office = Office(people)
    for event in events:
        office.go(event)
    return office


class Offices(Case):
    def refused_event(self, event, reason, function, *args):
        with self.assertRaises(InvalidEvent) as caught:
            function(*args)
        self.assertIs(caught.exception.__class__, InvalidEvent)
        self.exact(vars(caught.exception), {"event": event, "reason": reason})
        self.assertIsInstance(caught.exception, LiveError)
        self.assertIsInstance(caught.exception, OutError)
        return caught.exception

    def by_method(self, office, event):
        return getattr(office, METHODS[event[0]])(*event[1:])

    def test_drawn_offices(self):
        dice = random.Random(300)
        reasons = {}
        for _ in range(40):
            people = dice.choice((2, 2, 3))
            book, office, other = Book(people), Office(people), Office(people)
            for _ in range(40):
                event = drawn_event(dice, book, dice.choice((0, 0.3)))
                reason = book.reason(event)
                reasons[reason] = reasons.get(reason, 0) + 1
                before = book.state()
                self.exact(office.barred(event), reason)
                if reason is None:
                    given = book.do(event)
                    self.exact(office.go(event), given)
                    self.exact(self.by_method(other, event), given)
                else:
                    self.refused_event(event, reason, office.go, event)
                    self.refused_event(event, reason, self.by_method, other, event)
                    self.exact(office_state(office), before)
                self.exact(office_state(office), book.state())
                self.exact(office_state(other), book.state())
                self.assertTrue(office == other)
            for number in range(len(book.rounds)):
                self.exact(office.granted_in(number), book.granted.get(number))
        self.assertTrue(len(reasons) >= 11, reasons)

    def test_known(self):
        office = Office(2)
        self.exact(office.house_in(TWO), None)
        self.exact(office.take(0, 1, 1, 0, 4), None)
        self.exact(office.tell(0, 1, 3), None)
        self.exact(office.settle(0, "handed"), ((1,), (0, 0), 0))
        self.exact((office.person(), office.day(), office.people_now()), (None, None, 3))
        self.exact(office.rounds_now(), ((TWO, (None, (1, 0, 4, 3))),))
        self.exact(office.log(), (("house", TWO), ("take", 0, 1, 1, 0, 4), ("tell", 0, 1, 3), ("settle", 0, "handed"),
                                  ("person",), ("day",)))

    def test_accounts(self):
        office = done(2, SETTLED)
        self.exact(office_state(office)[2:4], ((-1, 0), 1))
        # Who joins behind a round began takes what is handed on.
        office.go(("house", TWO))
        for event in (("take", 1, 0, 0, 0, 4), ("take", 1, 1, 1, 0, 4), ("tell", 1, 0, 2), ("tell", 1, 1, 3)):
            office.go(event)
        self.refused_event(("settle", 1, "handed"), "full", office.settle, 1, "handed")
        office.person()
        self.exact(office.account(2), 0)
        self.exact(office.settle(1, "handed"), ((1,), (0, 2, -2), 0))
        self.exact(office_state(office)[2:4], ((-1, -2, 2), 1))

    def test_narrow_tell_drop(self):
        office = done(2, SETTLED[:2])
        office.tell(0, 0, 1)
        office.tell(0, 0, 4)
        self.exact(office.rounds_now(), ((TWO, ((0, 0, 4, 4), None)),))
        office.narrow(0, 0, 2, 4)
        self.exact(office.rounds_now(), ((TWO, ((0, 2, 4, 4), None)),))
        self.refused_event(("narrow", 0, 0, 2, 3), "stretch", office.narrow, 0, 0, 2, 3)
        self.refused_event(("narrow", 0, 0, 1, 4), "stretch", office.narrow, 0, 0, 1, 4)
        self.refused_event(("tell", 0, 0, 1), "worth", office.tell, 0, 0, 1)
        office.drop(0, 0)
        self.exact(office.rounds_now(), ((TWO, (None, None)),))
        office.take(0, 0, 1, 9, 9)
        self.exact(office.rounds_now(), ((TWO, ((1, 9, 9, None), None)),))
        self.refused_event(("settle", 0, "others"), "untold", office.settle, 0, "others")

    def test_any_values(self):
        office = Office(2)
        for event in EVENTS:
            for at in range(1, len(event)):
                for thing in (True, None, -1, "0", (), [0], {}, ("refuse",)):
                    wrong = event[:at] + (thing,) + event[at + 1:]
                    error = self.refused_event(wrong, "shape", self.by_method, office, wrong)
                    self.assertIs(error.event[at], thing)
        for thing in ODD_THINGS + (["day"], {}, {"day": 1}, office):
            with self.assertRaises(InvalidEvent) as caught:
                office.go(thing)
            self.assertIs(caught.exception.event, thing)
            self.exact((caught.exception.reason, office.barred(thing)), ("shape", "shape"))
        for house in EMPTY + (("limits", 7, ()), ("beside", (LIMITS, PAIRS[0]))):
            self.refused_event(("house", house), "shape", office.house_in, house)
        self.exact(office_state(office), (2, (), (0, 0), 0, ()))

    def test_by_name(self):
        office = Office(people=2)
        office.house_in(house=TWO)
        office.take(high=4, low=0, person=0, wish=1, number=0)
        office.narrow(number=0, wish=1, low=1, high=3)
        office.tell(number=0, wish=1, worth=2)
        self.exact(office.barred(event=("drop", 0, 1)), None)
        self.exact(office.settle(number=0, way="others"), ((1,), (0, 0), 0))
        office.go(event=("day",))
        office.undo(steps=2)
        office.drop(number=0, wish=1)
        office.do_all(events=(("day",),), keep=True)
        self.exact(office.tried(events=(("person",),)), (0, 0, 0))
        self.exact(office.log()[4:], (("drop", 0, 1), ("day",)))


class DoAll(Case):
    def test_all(self):
        for keep in (False, True, 1, None):
            office = Office(2)
            self.exact(office.do_all(SETTLED, keep), None)
            self.assertTrue(office == done(2, SETTLED))
            self.exact(office.do_all((), keep), None)
            self.exact(office.log(), SETTLED)

    def test_refused(self):
        wrong = ("tell", 0, 0, 9)
        for keep in (True, 1, False, None, "True", (True,), [True], 10 ** 59, object()):
            for first in range(len(SETTLED)):
                office = done(2, (("day",),) + SETTLED[:first])
                before = copy.deepcopy(office_state(office))
                with self.assertRaises(InvalidEvent) as caught:
                    office.do_all(SETTLED[first:3] + (wrong, ("day",)) if first < 3 else (("day",), wrong, ("day",)), keep)
                self.assertIs(caught.exception.event, wrong)
                self.exact(caught.exception.reason, "worth" if first < 6 else "settled")
                if keep is not True:
                    self.exact(office_state(office), before)
                    self.assertTrue(office == done(2, (("day",),) + SETTLED[:first]))
                else:
                    more = SETTLED[:3] if first < 3 else SETTLED[:first] + (("day",),)
                    self.assertTrue(office == done(2, (("day",),) + more))
        office = Office(2)
        self.assertRaises(InvalidEvent, office.do_all, (("day",), wrong))
        self.exact(office.log(), ())

    def test_settled_is_undone(self):
        office = Office(2)
        self.assertRaises(InvalidEvent, office.do_all, SETTLED + (("settle", 0, "others"),))
        self.exact(office_state(office), (2, (), (0, 0), 0, ()))

    def test_wrong_events(self):
        office = done(2, SETTLED)
        for thing in [thing for thing in ODD_THINGS] + [list(SETTLED), SETTLED + (None,), ("day",), [("day",)], (["day"],),
                                                        (("day",), ("take", 0, 0, 0, 4, 3))]:
            # A log with what is no event is not begun.
            for keep in (False, True):
                self.not_usable("events", office.do_all, thing, keep)
            self.not_usable("events", office.tried, thing)
        self.exact(office.log(), SETTLED)


class Undo(Case):
    def test_each_event(self):
        dice = random.Random(301)
        for _ in range(25):
            people = dice.choice((2, 3))
            book, office = Book(people), Office(people)
            states = [book.state()]
            for _ in range(25):
                event = drawn_event(dice, book, 0)
                if book.reason(event) is None:
                    book.do(event)
                    office.go(event)
                    states.append(copy.deepcopy(book.state()))
            last = len(states) - 1
            for many in (dice.randrange(1, last + 1), last):
                other = done(people, office.log())
                self.assertTrue(other == office)
                self.exact(other.undo(many), None)
                self.exact(office_state(other), states[last - many])
                self.assertTrue(other == done(people, states[last][4][:last - many]))
                # What was undone can be done again.
                other.do_all(states[last][4][last - many:])
                self.assertTrue(other == office)
                self.exact(office_state(other), states[last])
            for many in range(last, 0, -1):
                self.exact(office.undo(), None)
                self.exact(office_state(office), states[many - 1])
            self.refused(NothingToUndo, {"steps": 1}, office.undo)

    def test_more_than_there_are(self):
        office = done(2, SETTLED)
        for steps in (7, 10 ** 59):
            self.refused(NothingToUndo, {"steps": steps}, office.undo, steps)
        self.exact(office.log(), SETTLED)
        office.undo(6)
        self.exact(office_state(office), (2, (), (0, 0), 0, ()))
        self.refused(NothingToUndo, {"steps": 1}, office.undo, 1)

    def test_wrong_steps(self):
        office = done(2, SETTLED)
        for thing in (True, False, None, 0, -1, "1", (1,), [1], ()):
            self.not_usable("steps", office.undo, thing)
        self.exact(office.log(), SETTLED)


class Tried(Case):
    def test_tried(self):
        for many in range(len(SETTLED)):
            office = done(2, SETTLED[:many])
            self.exact(office.tried(SETTLED[many:]), (-1, 0))
            self.exact(office.tried(SETTLED[many:] + (("person",),)), (-1, 0, 0))
            self.exact(office.tried(()), (0, 0))
            self.assertTrue(office == done(2, SETTLED[:many]))
        office = done(2, SETTLED)
        self.exact(office.tried((("person",), ("day",))), (-1, 0, 0))
        self.assertTrue(office == done(2, SETTLED))

    def test_refused(self):
        office = done(2, SETTLED[:3])
        wrong = ("take", 0, 0, 0, 0, 0)
        with self.assertRaises(InvalidEvent) as caught:
            office.tried((("person",), wrong))
        self.assertIs(caught.exception.event, wrong)
        self.exact(caught.exception.reason, "taken")
        self.assertTrue(office == done(2, SETTLED[:3]))


class Equal(Case):
    def test_equal(self):
        office = done(2, SETTLED)
        self.assertTrue(office == done(2, SETTLED) and not office != done(2, SETTLED))
        for other in (done(3, SETTLED), done(2, SETTLED[:-1]), done(2, SETTLED + (("day",),)), Office(2), None, SETTLED,
                      done(2, SETTLED[:2] + SETTLED[3:4] + SETTLED[2:3] + SETTLED[4:]), office.log(), 2, OfficeAsks(2)):
            self.assertTrue(office != other)
            self.assertFalse(office == other)
        # Three persons at first, or two and one who joined.
        self.assertFalse(Office(3) == done(2, (("person",),)))
        self.assertFalse(Office(2) == OfficeAsks(2))
        self.assertFalse(OfficeAsks(2) == Office(2))

    def test_told_stays_as_told(self):
        office = done(2, SETTLED[:4])
        told = (office.log(), office.rounds_now(), office.calendar(), office.circle_in(0))
        before = copy.deepcopy(told)
        office.do_all(SETTLED[4:] + (("person",),))
        office.undo(3)
        office.drop(0, 0)
        self.exact(told, before)

    def test_asking_changes_nothing(self):
        office = done(2, SETTLED[:5])
        before = copy.deepcopy(vars(office))
        for _ in range(2):
            office.log(), office.rounds_now(), office.calendar(), office.circle_in(0), office.barred(SETTLED[5])
            office.tried(SETTLED[5:]), office.stays_in(0), office.span_in(0), office.granted_in(0), office.account(1)
        self.exact(vars(office), before)
        other = Office(2)
        self.exact((other.log(), other.rounds_now()), ((), ()))
