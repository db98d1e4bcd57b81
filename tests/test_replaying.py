import random

from someoneout.errors import InvalidEvent
from someoneout.journals import days_of, tills_of
from someoneout.offices import Office
from someoneout.replaying import cut_log, replayed
from tests.officebook import Book, drawn_event, office_state
from tests.support import Case, ODD_THINGS
from tests.test_officeasks import WRONG_PEOPLE
from tests.test_offices import SETTLED

WRONG_LOGS = ODD_THINGS + (list(SETTLED), SETTLED + (None,), ("day",), [("day",)], (["day"],),
                           (("day",), ("take", 0, 0, 0, 4, 3)))


def drawn_log(dice, people, many):
    """A log that is not refused, with some days, and the book that it comes to."""
    book = Book(people)
    for _ in range(many):
        event = drawn_event(dice, book, 0.05) if dice.random() < 0.85 else ("day",)
        if book.reason(event) is None:
            book.do(event)
    return tuple(book.log), book


class Replaying(Case):
    def test_drawn_logs(self):
        dice = random.Random(310)
        for _ in range(40):
            people = dice.choice((2, 2, 3))
            log, book = drawn_log(dice, people, 40)
            office = replayed(people, log)
            self.assertIs(office.__class__, Office)
            self.exact(office_state(office), book.state())
            self.assertFalse(replayed(people, log) is office)
            for many in (0, 1, len(log) // 2, len(log), len(log) + 1, 10 ** 59):
                self.exact(cut_log(log, many), (log[:many], log[many:]))
            first, rest = cut_log(log, dice.randrange(40))
            again = replayed(people, first)
            again.do_all(rest)
            self.assertTrue(again == office)

    def test_refused(self):
        wrong = ("tell", 0, 0, 9)
        for many in range(2, 5):
            log = SETTLED[:many] + (wrong, ("tell", 0, 0, 99), ("day",))
            for function in (replayed, days_of, tills_of):
                with self.assertRaises(InvalidEvent) as caught:
                    function(2, log)
                self.assertIs(caught.exception.event, wrong)
                self.exact(caught.exception.reason, "worth")
        self.exact(replayed(3, SETTLED[:5] + (("settle", 0, "handed"),)).account(2), 1)
        self.assertRaises(InvalidEvent, replayed, 2, SETTLED[:5] + (("settle", 0, "handed"),))

    def test_wrong_parameters(self):
        for thing in WRONG_PEOPLE:
            for function in (replayed, days_of, tills_of):
                self.not_usable("people", function, thing, None)
        for thing in WRONG_LOGS:
            for function in (replayed, days_of, tills_of):
                self.not_usable("log", function, 2, thing)
            self.not_usable("log", cut_log, thing, None)
        for thing in (True, False, None, -1, "1", (), (1,), [1]):
            self.not_usable("many", cut_log, SETTLED, thing)

    def test_by_name(self):
        self.exact(office_state(replayed(log=SETTLED, people=2))[2:4], ((-1, 0), 1))
        self.exact((cut_log(many=5, log=SETTLED), cut_log((), 3)), ((SETTLED[:5], SETTLED[5:]), ((), ())))


class Journals(Case):
    def test_drawn_logs(self):
        dice = random.Random(311)
        changed = 0
        for _ in range(60):
            people = dice.choice((2, 2, 3))
            log, _ = drawn_log(dice, people, 120)
            book = Book(people)
            days, tills, before = [], [], {}
            for event in log:
                book.do(event)
                if event == ("day",):
                    days.append(tuple(account - before.get(person, 0) for person, account in enumerate(book.accounts)))
                    tills.append(book.till)
                    before = dict(enumerate(book.accounts))
            self.exact((days_of(people, log), tills_of(people, log)), (tuple(days), tuple(tills)))
            changed += any(any(day) for day in days)
        self.assertGreater(changed, 10)

    def test_known(self):
        log = (("day",), ("person",), ("day",), ("person",))
        self.exact((days_of(2, log), tills_of(2, log)), (((0, 0), (0, 0, 0)), (0, 0)))
        self.exact((days_of(2, ()), tills_of(2, ()), days_of(2, SETTLED)), ((), (), ()))
        log = (("day",),) + SETTLED + (("day",), ("day",), ("person",), ("day",))
        self.exact((days_of(2, log), tills_of(2, log)), (((0, 0), (-1, 0), (0, 0), (0, 0, 0)), (0, 1, 1, 1)))

    def test_by_name(self):
        self.exact((days_of(log=SETTLED + (("day",),), people=2), tills_of(log=SETTLED + (("day",),), people=2)),
                   (((-1, 0),), (1,)))
