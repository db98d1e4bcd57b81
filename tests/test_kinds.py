from itertools import permutations

from someoneout.kinds import (is_integer, is_lot, is_number, is_order, is_quotient, lot_by, lot_number,
                              lots_within)
from tests.oracles import lots_of
from tests.support import Case, ODD_THINGS


class Kinds(Case):
    def test_integers_and_numbers(self):
        for thing in (0, 1, 7, 10 ** 59):
            self.exact((is_integer(thing), is_number(thing)), (True, True))
        for thing in (-1, -10 ** 59):
            self.exact((is_integer(thing), is_number(thing)), (True, False))
        for thing in (True, False, None, "1", "", (), (1,), [1], [], object()):
            self.exact((is_integer(thing), is_number(thing)), (False, False))

    def test_quotients(self):
        for thing in ((0, 1), (1, 1), (-1, 1), (1, 2), (-3, 4), (10 ** 40, 10 ** 40 + 1)):
            self.exact(is_quotient(thing), True)
        for thing in ((2, 4), (0, 2), (0, 0), (1, 0), (1, -1), (-1, -1), (1, 2, 3), (1,), [1, 2], (True, 1),
                      (1, True), (False, 1), (None, 1), (1, "2"), ((1,), 1), "12", 1, None, True, ()):
            self.exact(is_quotient(thing), False)

    def test_lots(self):
        for size, thing in ((0, ()), (3, ()), (1, (0,)), (3, (0, 2)), (3, (0, 1, 2)), (10 ** 40, (5, 10 ** 40 - 1))):
            self.exact(is_lot(size, thing), True)
        for size, thing in ((0, (0,)), (3, (3,)), (3, (2, 0)), (3, (1, 1)), (3, [0, 1]), (3, []), (3, (-1,)),
                            (3, (False, 1)), (3, (0, True)), (3, (None,)), (3, ("0",)), (3, ((0,),)), (3, "012"),
                            (3, 0), (3, None), (3, True), (3, {0: 1})):
            self.exact(is_lot(size, thing), False)

    def test_orders(self):
        self.exact(is_order(0, ()), True)
        for thing in permutations(range(3)):
            self.exact(is_order(3, thing), True)
        for thing in ((), (0, 1), (0, 1, 2, 3), (0, 1, 1), (0, 1, 3), (-1, 0, 1), [0, 1, 2], (0, True, 2),
                      (False, 1, 2), (0, 1, "2"), (0, 1, None), (0, 1, (2,)), (0, 1, [2]), "012", None, 3, True):
            self.exact(is_order(3, thing), False)
        self.exact(is_order(10 ** 40, (0, 1)), False)

    def test_numbers_of_lots(self):
        self.exact(lot_number(()), 0)
        self.exact(lot_number((12,)), 4096)
        self.exact(lot_number(tuple(range(13))), 8191)
        self.exact(lot_by(0), ())
        self.exact(lot_by(8191), tuple(range(13)))
        self.exact(lot_by(4098), (1, 12))
        for lot in lots_of(6):
            self.exact(lot_by(lot_number(lot)), lot)

    def test_lots_within_by_their_numbers(self):
        self.exact(lots_within(()), ((),))
        for lot in lots_of(5):
            wanted = sorted((part for part in lots_of(5) if set(part) <= set(lot)), key=lot_number)
            self.exact(lots_within(lot), tuple(wanted))
        self.assertEqual(len(lots_within(tuple(range(8)))), 256)
        self.exact(lots_within((3, 10 ** 40)), ((), (3,), (10 ** 40,), (3, 10 ** 40)))

    def test_wrong_number(self):
        for thing in (True, False, -1, None, "1", (1,), [1], ()):
            self.not_usable("number", lot_by, thing)

    def test_any_value_is_taken(self):
        for thing in ODD_THINGS:
            for told in (is_integer(thing), is_number(thing), is_quotient(thing), is_lot(4, thing), is_order(2, thing)):
                self.assertIsInstance(told, bool)
