import random
from itertools import product

from someoneout.errors import Crowded, InvalidPaper
from someoneout.seating import lets_crowd, lets_seats, seated
from tests.oracles import free_lots, is_free_by_words, lots_of
from tests.support import Case, LIMITS, ODD_THINGS, SAMPLES, SLOTS, WEB, random_lot

SLOT_EMPTY = (("slots", 0, ()), ("slots", 3, ()))


def slot_houses(seed, many):
    dice = random.Random(seed)
    yield SLOTS
    yield from SLOT_EMPTY
    for _ in range(many):
        slots = dice.randrange(6)
        yield ("slots", slots, tuple(random_lot(dice, slots) for _ in range(dice.randrange(6))))


def suited(house, lot):
    return {slot for wish in lot for slot in house[2][wish]}


class Seats(Case):
    def test_all_houses(self):
        for house in slot_houses(52, 150):
            size = len(house[2])
            free = free_lots(house)
            for lot in lots_of(size):
                if lot in free:
                    self.seats(house, lot, seated(house, lot))
                    continue
                with self.assertRaises(Crowded) as caught:
                    seated(house, lot)
                crowd = caught.exception.lot
                self.exact(tuple(vars(caught.exception)), ("lot",))
                self.exact(lets_crowd(house, lot, crowd), len(suited(house, crowd)))
                self.assertLessEqual(set(crowd), set(lot))
                self.assertGreater(len(crowd), len(suited(house, crowd)))

    def seats(self, house, lot, pairs):
        self.assertIsInstance(pairs, tuple)
        self.exact(tuple(wish for wish, _ in pairs), lot)
        self.assertEqual(len({slot for _, slot in pairs}), len(lot))
        for wish, slot in pairs:
            self.assertIn(slot, house[2][wish])
        self.exact(lets_seats(house, lot, pairs), len(lot))

    def test_all_other_seats_are_let(self):
        for house in slot_houses(53, 30):
            for lot in lots_of(len(house[2])):
                if len(lot) > 3:
                    continue
                for slots in product(range(house[1]), repeat=len(lot)):
                    pairs = tuple(zip(lot, slots))
                    if len(set(slots)) == len(lot) and all(slot in house[2][wish] for wish, slot in pairs):
                        self.exact(lets_seats(house, lot, pairs), len(lot))
                    else:
                        self.assertRaises(InvalidPaper, lets_seats, house, lot, pairs)

    def test_edges(self):
        for house in SLOT_EMPTY + (SLOTS,):
            self.exact(seated(house, ()), ())
            self.exact(lets_seats(house, (), ()), 0)
        chain = ("slots", 12, tuple((max(0, wish - 1), wish) if wish else (0,) for wish in range(8)))
        self.exact(seated(chain, tuple(range(8))), tuple((wish, wish) for wish in range(8)))
        self.exact(seated(("slots", 3, ((0, 1, 2), (0, 1), (0,))), (0, 1, 2)), ((0, 2), (1, 1), (2, 0)))
        self.refused(Crowded, {"lot": (3,)}, seated, SLOTS, (0, 3, 4))

    def test_other_words(self):
        for house in SAMPLES:
            if house != SLOTS:
                for thing in ((), None):
                    self.not_usable("house", seated, house, thing)
                    self.not_usable("house", lets_seats, house, thing, None)
                    self.not_usable("house", lets_crowd, house, thing, None)
        self.not_usable("house", seated, ("beside", (SLOTS, SLOTS)), (0,))

    def test_wrong_lots(self):
        for thing in ODD_THINGS + ((6,),):
            self.not_usable("lot", seated, SLOTS, thing)
            self.not_usable("lot", lets_seats, SLOTS, thing, None)
            self.not_usable("lot", lets_crowd, SLOTS, thing, None)

    def test_by_name(self):
        self.exact(seated(lot=(1,), house=SLOTS), ((1, 0),))
        self.exact(lets_seats(thing=((1, 0),), lot=(1,), house=SLOTS), 1)
        self.exact(lets_crowd(thing=(3,), lot=(1, 3), house=SLOTS), 0)


class RefusedSeats(Case):
    HOUSE = ("slots", 3, ((0, 1), (0,), (1, 2), (2,)))

    def wrong(self, word, at, lot, thing):
        self.refused(InvalidPaper, {"word": word, "at": at}, lets_seats, self.HOUSE, lot, thing)

    def test_shape(self):
        for thing in (None, True, 0, "", [], [(0, 0)], {}, ((0, 0), (2, 1)), ((), (), ())):
            self.wrong("shape", -1, (0,), thing)
        self.wrong("shape", -1, (), [])
        self.wrong("shape", -1, (), ((0, 0),))
        self.wrong("shape", -1, (0, 2), ())

    def test_element_by_element(self):
        for thing in (None, 0, (), (0,), (0, 1, 1), [0, 1], (0, 2), (1, 0), (0, -1), (0, 3), (False, 1), (0, True),
                      (0, False), (0, None), (None, 0), ("0", 0), (0, (1,)), (0, [1]), "01"):
            self.wrong("pair", 0, (0, 2), (thing, None))
        for thing in (None, (0, 1), (2, 0), [2, 1], (2, True), (2,), (True, 2)):
            self.wrong("pair", 1, (0, 2), ((0, 0), thing))
        self.wrong("twice", 1, (0, 2), ((0, 1), (2, 1)))
        self.wrong("twice", 1, (0, 1, 2), ((0, 0), (1, 0), None))
        self.wrong("pair", 0, (0, 1, 2), (None, (1, 0), (2, 1)))
        self.wrong("pair", 2, (0, 1, 3), ((0, 1), (1, 0), (3, 1)))
        self.wrong("twice", 2, (0, 2, 3), ((0, 0), (2, 2), (3, 2)))
        # In the sequence of the lot only.
        self.wrong("pair", 0, (0, 1), ((1, 0), (0, 1)))


class RefusedCrowds(Case):
    HOUSE = ("slots", 3, ((0,), (0,), (1,), (), (1, 2)))

    def wrong(self, word, lot, thing):
        self.refused(InvalidPaper, {"word": word, "at": -1}, lets_crowd, self.HOUSE, lot, thing)

    def test_true_crowds(self):
        everyone = (0, 1, 2, 3, 4)
        for crowd, many in (((0, 1), 1), ((3,), 0), ((0, 1, 3), 1), ((0, 3), 1), ((0, 1, 2), 2), (everyone, 3),
                            ((2, 3), 1), ((0, 1, 2, 4), 3)):
            self.exact(lets_crowd(self.HOUSE, everyone, crowd), many)
            self.exact(lets_crowd(self.HOUSE, crowd, crowd), many)

    def test_all_lots(self):
        for house in slot_houses(54, 60):
            for thing in lots_of(len(house[2])):
                if len(thing) > len(suited(house, thing)):
                    self.assertFalse(is_free_by_words(house, thing))
                    self.exact(lets_crowd(house, thing, thing), len(suited(house, thing)))
                else:
                    self.refused(InvalidPaper, {"word": "enough", "at": -1}, lets_crowd, house, thing, thing)

    def test_entries(self):
        for thing in ODD_THINGS + ((5,), [0, 1], (0, 1, 1), (False, 1), (0, True)):
            self.wrong("shape", (), thing)
            self.wrong("shape", (0, 1), thing)
        self.wrong("within", (), (0, 1))
        self.wrong("within", (0, 2, 3), (0, 1))
        self.wrong("within", (0, 1), (2,))
        self.wrong("enough", (0, 1), ())
        self.wrong("enough", (), ())
        self.wrong("enough", (0, 1, 2), (0, 2))
        self.wrong("enough", (0, 1), (0,))

    def test_other_kinds_are_not_asked(self):
        self.not_usable("house", lets_crowd, LIMITS, (0, 1), (0, 1))
        self.not_usable("house", lets_seats, WEB, (), ())
