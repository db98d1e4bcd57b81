import random

from someoneout.desk import desk_line
from someoneout.errors import InvalidEvent, InvalidRow, InvalidText
from someoneout.eventtexts import event_line
from someoneout.officeasks import OfficeAsks
from someoneout.offices import Office
from tests.officebook import Book, drawn_event, office_state
from tests.support import Case, ODD_THINGS, SEAT
from tests.test_offices import SETTLED, done
from tests.test_replaying import WRONG_LOGS


class Desk(Case):
    def test_drawn_lines(self):
        dice = random.Random(330)
        for _ in range(30):
            people = dice.choice((2, 3))
            book, office = Book(people), Office(people)
            for _ in range(30):
                event = drawn_event(dice, book, 0.2)
                reason = book.reason(event)
                if reason is None:
                    book.do(event)
                    self.exact(desk_line(office, event_line(event)), "done")
                else:
                    self.refused(InvalidEvent, {"event": event, "reason": reason}, desk_line, office, event_line(event))
                self.exact(office_state(office), book.state())
            self.exact((desk_line(office, "people"), desk_line(office, "till")), (str(book.people), str(book.till)))
            for person, account in enumerate(book.accounts):
                self.exact(desk_line(office, "account " + str(person)), str(account))
            for number in range(len(book.rounds)):
                lot = book.granted.get(number)
                text = "none" if lot is None else " ".join(str(wish) for wish in lot) or "-"
                self.exact(desk_line(office, "granted " + str(number)), text)
                self.exact(desk_line(office, "stays " + str(number)), "yes" if office.stays_in(number) else "no")
            self.exact(office_state(office), book.state())

    def test_asks(self):
        office = done(2, SETTLED)
        for text, answer in (("people", "2"), ("till", "1"), ("account 0", "-1"), ("account 1", "0"), ("stays 0", "no"),
                             ("span 0", "2/1"), ("granted 0", "0")):
            self.exact(desk_line(office, text), answer)
        for text in ("person", "house limits 3 ; 0 1 2 : 2", "take 1 0 1 0 7", "take 1 2 0 0 3"):
            self.exact(desk_line(office, text), "done")
        for text, answer in (("people", "3"), ("account 2", "0"), ("stays 0", "yes"), ("span 0", "0/1"), ("stays 1", "yes"),
                             ("granted 1", "none")):
            self.exact(desk_line(office, text), answer)
        for text in ("tell 1 0 2", "tell 1 2 3", "settle 1 handed", "house web 1 ; 0 0", "settle 2 others"):
            self.exact(desk_line(office, text), "done")
        self.exact((desk_line(office, "granted 1"), desk_line(office, "granted 2")), ("0 2", "-"))

    def test_halves_and_great_numbers(self):
        office = Office(2)
        far = 10 ** 40
        for text in ("house limits 4 ; 0 1 2 3 : 2", "take 0 0 0 0 1", "take 0 1 0 0 1", "take 0 2 1 0 1", "take 0 3 1 0 1",
                     "house limits 2 ; 0 1 : 1", "take 1 0 0 0 " + str(far), "take 1 1 1 0 " + str(far),
                     "tell 1 0 " + str(far), "tell 1 1 " + str(far - 1)):
            desk_line(office, text)
        self.exact((desk_line(office, "span 0"), desk_line(office, "span 1")), ("1/1", str(far // 2) + "/1"))
        desk_line(office, "settle 1 others")
        self.exact((desk_line(office, "account 0"), desk_line(office, "till")), (str(1 - far), str(far - 1)))
        desk_line(office, "house limits 2 ; 0 1 : 1")
        desk_line(office, "take 2 0 0 0 3")
        desk_line(office, "take 2 1 1 0 3")
        self.exact(desk_line(office, "span 2"), "3/2")

    def test_raises_as_these(self):
        office = done(2, SETTLED)
        for text in ("account 2", "account " + str(10 ** 59)):
            self.not_usable("person", desk_line, office, text)
        for word in ("stays", "span", "granted"):
            self.not_usable("number", desk_line, office, word + " 1")
        self.refused(InvalidEvent, {"event": ("drop", 7, 0), "reason": "round"}, desk_line, office, "drop 7 0")
        self.refused(InvalidRow, {"row": ("take", 0, 0, 0, 4, 3)}, desk_line, office, "take 0 0 0 4 3")
        self.refused(InvalidRow, {"row": ("house", ("limits", 0, ()))}, desk_line, office, "house limits 0")
        self.exact(office.log(), SETTLED)

    def test_other_texts(self):
        office = done(2, SETTLED)
        for field, text in ((0, ""), (0, " "), (0, "log"), (0, "undo"), (0, "Till"), (0, "accounts 0"), (0, "calendar"), (0, "0"),
                            (1, "people 0"), (1, "till "), (1, "till 0"), (1, "account"), (1, "account "), (1, "account x"),
                            (1, "account -1"), (1, "account 00"), (1, "stays"), (1, "span +0"), (2, "span 0 0"),
                            (2, "granted 0 "), (1, "granted 01"), (1, "day 0"), (5, "take 0 0 0 0"), (1, "person 0"),
                            (2, "settle 0"), (2, "account 7 7"), (2, "stays 9 ")):
            self.refused(InvalidText, {"line": 0, "field": field}, desk_line, office, text)
        self.exact(office.log(), SETTLED)

    def test_wrong_parameters(self):
        for thing in ODD_THINGS + (OfficeAsks(2), SETTLED, {}, Office) + WRONG_LOGS[-2:]:
            self.not_usable("office", desk_line, thing, None)
        office = Office(2)
        for thing in [thing for thing in ODD_THINGS if not isinstance(thing, str)] + [["day"], ("day",), b"till"]:
            self.not_usable("text", desk_line, office, thing)
        for text in ("day\n", "\n", "till\n", "day\nday", "till%", "till\t", "\xe9", "account \u0661"):
            self.not_usable("text", desk_line, office, text)
        self.exact((office.log(), SEAT[1]), ((), 2))

    def test_by_name(self):
        self.exact(desk_line(text="people", office=Office(3)), "3")
