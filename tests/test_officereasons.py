import random

from someoneout.officereasons import reason_of
from tests.officebook import Book, SEQUENCE, drawn_event, reasons_by_words
from tests.support import Case, EMPTY, ODD_THINGS, SEAT
from tests.test_officeevents import EVENTS
from tests.test_settling import TWO, WRONG_TAKERS

BARRED = ("limits", 3, (((0, 1), 1), ((2,), 0)))
OPEN = (TWO[0], ((0, 0, 4, None), None))
HALF = (BARRED, ((0, 1, 4, 3), (1, 0, 4, None), (1, 0, 9, 9)))
TOLD = (BARRED, ((0, 1, 4, 3), (1, 0, 4, 2), (1, 0, 9, 9)))
ROUNDS = (TWO, OPEN, HALF, TOLD)


class Reasons(Case):
    def reason(self, wanted, event, settled=(), people=2):
        self.exact(reason_of(people, ROUNDS, settled, event), wanted)

    def test_none(self):
        for event in (("person",), ("house", SEAT[0]), ("day",), ("take", 1, 1, 1, 3, 9), ("drop", 0, 0), ("tell", 1, 0, 4),
                      ("narrow", 0, 0, 3, 3), ("narrow", 0, 0, 0, 4), ("narrow", 1, 0, 4, 4), ("settle", 0, "others"),
                      ("settle", 0, ("refuse", 0)), ("settle", 0, ("promise", 0)), ("settle", 3, ("refuse", 2)),
                      ("tell", 0, 1, 0)):
            self.reason(None, event, () if event != ("settle", 3, ("refuse", 2)) else (0,), 3)

    def test_each_alone(self):
        for thing in ODD_THINGS + (["day"], ("take", 0, 0, 0, 4, 3), ("settle", 0, "refuse"), ("house", EMPTY[0]), SEAT):
            self.reason("shape", thing)
        for word, event, settled in (
                ("round", ("take", 4, 1, 0, 0, 0), ()), ("round", ("settle", 9, "others"), ()), ("round", ("drop", 4, 0), ()),
                ("settled", ("take", 1, 1, 0, 0, 0), (1,)), ("settled", ("settle", 0, "others"), (0, 3)),
                ("settled", ("drop", 0, 1), (0,)), ("settled", ("narrow", 0, 0, 3, 3), (0,)), ("settled", ("tell", 0, 0, 1), (0,)),
                ("wish", ("take", 1, 2, 0, 0, 0), ()), ("wish", ("drop", 0, 2), ()), ("wish", ("narrow", 0, 2, 0, 0), ()),
                ("wish", ("tell", 2, 3, 0), ()), ("wish", ("settle", 0, ("refuse", 2)), ()),
                ("wish", ("settle", 0, ("promise", 9)), ()), ("person", ("take", 1, 1, 2, 0, 0), ()),
                ("taken", ("take", 1, 0, 1, 0, 0), ()), ("untaken", ("drop", 1, 1), ()), ("untaken", ("narrow", 1, 1, 0, 0), ()),
                ("untaken", ("tell", 1, 1, 0), ()), ("stretch", ("narrow", 2, 1, 0, 5), ()),
                ("stretch", ("narrow", 2, 0, 0, 4), ()), ("stretch", ("narrow", 0, 0, 0, 2), ()),
                ("stretch", ("narrow", 0, 0, 4, 4), ()), ("worth", ("tell", 1, 0, 5), ()), ("worth", ("tell", 2, 0, 0), ()),
                ("untold", ("settle", 1, "others"), ()), ("untold", ("settle", 2, "others"), ()),
                ("barred", ("settle", 3, ("promise", 2)), ()), ("full", ("settle", 0, "handed"), ())):
            self.reason(word, event, settled)

    def test_each_before_those_behind(self):
        # All that applies: settled, the wish, the person ..; what stands first is told.
        self.reason("settled", ("take", 0, 9, 9, 0, 0), (0,))
        self.reason("settled", ("take", 0, 0, 9, 0, 0), (0,))
        self.reason("settled", ("settle", 2, ("promise", 2)), (2,))
        self.reason("settled", ("settle", 2, ("promise", 7)), (2,))
        self.reason("settled", ("narrow", 1, 1, 9, 9), (1,))
        self.reason("wish", ("take", 1, 2, 2, 0, 0))
        self.reason("wish", ("settle", 1, ("refuse", 2)))
        self.reason("wish", ("settle", 2, ("promise", 3)))
        self.reason("person", ("take", 1, 0, 2, 0, 0))
        self.reason("untaken", ("settle", 1, ("promise", 1)))
        self.reason("untaken", ("narrow", 1, 1, 9, 9))
        self.reason("untold", ("settle", 2, ("promise", 2)))
        self.reason("untold", ("settle", 2, "handed"))
        full = (("limits", 4, (((0, 1), 1), ((2,), 0))), ((0, 0, 4, 4), (1, 0, 4, 4), (0, 0, 4, 4), (1, 0, 4, None)))
        told = (full[0], full[1][:3] + ((1, 0, 4, 1),))
        self.exact(reason_of(2, (full,), (), ("settle", 0, ("promise", 2))), "untold")
        self.exact(reason_of(2, (told,), (), ("settle", 0, ("promise", 2))), "barred")
        self.exact(reason_of(2, (told,), (), ("settle", 0, ("promise", 3))), "full")
        self.exact(reason_of(2, (told,), (), ("settle", 0, ("refuse", 2))), "full")
        self.exact(reason_of(3, (told,), (), ("settle", 0, ("refuse", 2))), None)
        self.exact(reason_of(2, (told,), (), ("settle", 0, "others")), None)
        self.exact(reason_of(2, ((told[0], told[1][:3] + (None,)),), (), ("settle", 0, ("promise", 3))), "untaken")

    def test_drawn_rounds(self):
        dice = random.Random(285)
        found = {}
        pairs = set()
        for _ in range(200):
            book = Book(dice.choice((2, 2, 2, 3)))
            for _ in range(40):
                event = drawn_event(dice, book, dice.choice((0, 0.4)))
                rounds, settled = book.rounds_told(), tuple(sorted(book.granted))
                all_of_them = reasons_by_words(book.people, book.rounds, book.granted, event)
                wanted = ([word for word in SEQUENCE if word in all_of_them] + [None])[0]
                self.exact(reason_of(book.people, rounds, settled, event), wanted)
                found[wanted] = found.get(wanted, 0) + 1
                pairs |= {(wanted, other) for other in all_of_them}
                if wanted is None:
                    book.do(event)
        self.assertTrue(set(found) == set(SEQUENCE[1:]) | {None} and min(found.values()) > 10, found)
        self.assertTrue(len(pairs) > 22, len(pairs))

    def test_wrong_parameters(self):
        for thing in (True, False, None, 1, 0, -2, "2", (2,), [2], ()):
            self.not_usable("people", reason_of, thing, None, None, None)
        for thing in [thing for thing in ODD_THINGS] + [list(ROUNDS), (TWO, None), (TWO, list(TWO)), (TWO[:1],), (TWO + (0,),), TWO,
                                                        ((TWO[0], TWO[1][:1]),), ((SEAT, TWO[1]),), ((EMPTY[0], ()),),
                                                        ((TWO[0], ((2, 0, 4, 3), None)),)] \
                + [((TWO[0], (taker, None)),) for taker in WRONG_TAKERS]:
            self.not_usable("rounds", reason_of, 2, thing, None, None)
        for thing in [thing for thing in ODD_THINGS] + [(4,), (1, 0), (0, 0), [0], (0, True), (-1,)]:
            self.not_usable("settled", reason_of, 2, ROUNDS, thing, None)
        self.not_usable("settled", reason_of, 2, (), (0,), ("day",))
        self.exact(reason_of(2, (), (), EVENTS[2]), "round")

    def test_by_name(self):
        self.exact(reason_of(event=("drop", 0, 0), settled=(0,), rounds=ROUNDS, people=2), "settled")
