import random

from someoneout.circlespans import circle_span
from someoneout.houses import beside
from someoneout.leavings import stays
from someoneout.officeasks import OfficeAsks
from someoneout.offices import Office
from tests.officebook import Book, circle_by_takers, drawn_event
from tests.support import Case, SEAT, TRIO, one_pieces, wrong_persons

WRONG_PEOPLE = (True, False, None, 1, 0, -2, "2", (2,), [2], (), 10 ** 59 * -1)


def calendar_by_words(book):
    """The kept circles of the rounds not settled, put beside one another."""
    circles = [circle_by_takers(book.people, house, takers) for number, (house, takers) in enumerate(book.rounds)
               if number not in book.granted]
    houses = tuple(circle[0] for circle in circles)
    house = ("table", 0, (0,)) if not houses else houses[0] if len(houses) == 1 else ("beside", houses)
    return (house, book.people, sum((circle[2] for circle in circles), ()), sum((circle[3] for circle in circles), ()))


class Asks(Case):
    def test_beginning(self):
        for people in (2, 3, 5):
            asks = OfficeAsks(people)
            self.exact((asks.people_now(), asks.rounds_now(), asks.till_now(), asks.calendar()),
                       (people, (), 0, (("table", 0, (0,)), people, (), ())))
            self.exact([asks.account(person) for person in range(people)], [0] * people)
            for method in (asks.circle_in, asks.stays_in, asks.span_in, asks.granted_in):
                self.not_usable("number", method, 0)
        self.exact(OfficeAsks(people=2).people_now(), 2)
        self.assertTrue(issubclass(Office, OfficeAsks))

    def test_wrong_parameters(self):
        for thing in WRONG_PEOPLE:
            self.not_usable("people", OfficeAsks, thing)
            self.not_usable("people", Office, thing)
        office = Office(2)
        office.house_in(SEAT[0])
        for thing in (True, False, None, -1, 1, "0", (), (0,), [0], 10 ** 59):
            for method in (office.circle_in, office.stays_in, office.span_in, office.granted_in):
                self.not_usable("number", method, thing)
        for thing in wrong_persons(2):
            self.not_usable("person", office.account, thing)
        self.exact((office.account(person=1), office.stays_in(number=0), office.granted_in(number=0)), (0, True, None))

    def test_drawn_offices(self):
        dice = random.Random(290)
        many = [0, 0]
        for _ in range(80):
            people = dice.choice((2, 2, 3))
            book, office = Book(people), Office(people)
            house = dice.choice(one_pieces(people))
            takes = [("take", 0, wish, wish, 0, dice.choice((0, 4, 4))) for wish in range(people)]
            for event in [("house", house)] + takes + [None] * 30:
                event = event or drawn_event(dice, book, 0.1)
                if book.reason(event) is None:
                    book.do(event)
                    office.go(event)
            self.exact((office.people_now(), office.rounds_now(), office.till_now()),
                       (book.people, book.rounds_told(), book.till))
            self.exact([office.account(person) for person in range(book.people)], book.accounts)
            for number, (house, takers) in enumerate(book.rounds):
                circle = circle_by_takers(book.people, house, takers)
                self.exact(office.circle_in(number), circle)
                self.exact(office.stays_in(number), stays(circle))
                many[stays(circle)] += 1
                if len(circle[2]) <= 4 and len({end for stretch in circle[3] for end in stretch}) <= 3:
                    self.exact(office.span_in(number), circle_span(circle))
                self.exact(office.granted_in(number), book.granted.get(number))
            self.exact(office.calendar(), calendar_by_words(book))
        self.assertTrue(min(many) > 10, many)

    def test_calendar(self):
        office = Office(2)
        office.house_in(SEAT[0])
        office.house_in(TRIO[0])
        office.house_in(("web", 1, ((0, 0),)))
        empty = ("table", 0, (0,))
        self.exact(office.calendar(), (("beside", (empty, empty, empty)), 2, (), ()))
        office.take(1, 2, 1, 0, 9)
        office.take(1, 0, 0, 3, 4)
        office.take(0, 1, 1, 5, 5)
        kept = (("table", 1, (0, 1)), ("table", 2, (0, 1, 1, 2)), empty)
        told = office.calendar()
        self.exact(told, (("beside", kept), 2, (1, 0, 1), ((5, 5), (3, 4), (0, 9))))
        office.settle(2, "handed")
        self.exact(office.calendar(), (beside(*kept[:2]),) + told[1:])
        office.tell(0, 1, 5)
        office.settle(0, "others")
        self.exact(office.calendar(), (kept[1], 2, (0, 1), ((3, 4), (0, 9))))
        office.person()
        self.exact((office.calendar()[1], office.circle_in(0)[1], office.circle_in(1)[1]), (3, 3, 3))
        # What was told earlier stays as it was.
        self.exact(told, (("beside", kept), 2, (1, 0, 1), ((5, 5), (3, 4), (0, 9))))

    def test_spans(self):
        office = Office(2)
        office.house_in(SEAT[0])
        self.exact((office.span_in(0), office.stays_in(0)), ((0, 1), True))
        office.take(0, 0, 0, 0, 4)
        office.take(0, 1, 1, 0, 4)
        self.exact((office.span_in(0), office.stays_in(0)), ((2, 1), False))
        office.person()
        self.exact((office.span_in(0), office.stays_in(0)), ((0, 1), True))
