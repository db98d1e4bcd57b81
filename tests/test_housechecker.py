from someoneout.errors import InvalidPaper
from someoneout.housechecker import is_house, lets_house
from tests.oracles import is_level, lots_of, number_of_lot, rank_by_free, size_by_words
from tests.support import BESIDE, Case, EMPTY, LIMITS, ODD_THINGS, ROWS, SAMPLES, SLOTS, TABLE, WEB, random_houses

BIG = 10 ** 30


class Houses(Case):
    def wrong(self, word, at, thing):
        self.exact(is_house(thing), False)
        self.refused(InvalidPaper, {"word": word, "at": at}, lets_house, thing)

    def right(self, thing, size):
        self.exact(is_house(thing), True)
        self.exact(lets_house(thing), size)

    def test_houses_of_all_words(self):
        for house, size in zip(SAMPLES, (6, 6, 6, 5, 3, 5)):
            self.right(house, size)
        for house in EMPTY:
            self.right(house, 0)
        for house in random_houses(1, 200):
            self.right(house, size_by_words(house))

    def test_limits_are_ignored(self):
        self.right(("limits", 10 ** 59, (((0, 10 ** 58), 10 ** 59),)), 10 ** 59)
        self.right(("slots", 10 ** 59, ((10 ** 58,),) * 20), 20)
        self.right(("web", 10 ** 59, ((10 ** 57, 10 ** 58),) * 20), 20)
        self.right(("rows", 7, ((6,) * 20,) * 20), 20)
        self.right(("beside", (("limits", 9, ()),) * 6), 54)
        self.right(("limits", 40, tuple(((wish,), BIG) for wish in range(40))), 40)

    def test_shape(self):
        for thing in ODD_THINGS + ((), ("seats", 2, ()), ("limits", 2), ("limits", 2, (), ()), ("beside",),
                                   ("beside", 2, ()), ["limits", 2, ()], (["limits"], 2, ()), (0, 2, ()),
                                   ("beside", (), ()), [LIMITS], (LIMITS,), ("Limits", 2, ())):
            self.wrong("shape", -1, thing)

    def test_size(self):
        for word in ("limits", "slots", "web", "rows", "table"):
            for thing in (True, False, -1, None, "2", (2,), [2]):
                self.wrong("size", -1, (word, thing, None))
        for thing in (0, 1, 4, 6, 8, 9, 11, 10 ** 40):
            self.wrong("size", -1, ("rows", thing, []))
        for thing in (13, 10 ** 40):
            self.wrong("size", -1, ("table", thing, ()))

    def test_rows(self):
        for word in ("limits", "slots", "web", "rows", "table"):
            for thing in (True, None, [], "", 0, [()]):
                self.wrong("rows", -1, (word, 2, thing))
        for size, ranks in ((0, ()), (0, (0, 0)), (1, (0,)), (2, (0, 1, 1)), (2, (0, 1, 1, 2, 2)), (12, (0,) * 4095)):
            self.wrong("rows", -1, ("table", size, ranks))
        for thing in (True, None, [], "", 0, (), (LIMITS,), [LIMITS, WEB], (7,)):
            self.wrong("rows", -1, ("beside", thing))

    def test_limit_rows(self):
        for row in (None, (), ((0,),), ((0,), 1, 1), [(0,), 1], ((), 1), ([0], 1), ((0, 3), 1), ((1, 0), 1), ((0, 0), 1),
                    ((0,), -1), ((0,), True), ((0,), None), ((0,), "1"), ((True,), 1), ((-1,), 1), (0, 1)):
            self.wrong("row", 0, ("limits", 3, (row, row)))
            self.wrong("row", 1, ("limits", 3, (((0, 1), 2), row, row)))
        self.right(("limits", 3, (((0,), 0), ((0, 1, 2), BIG))), 3)

    def test_crossing_limits(self):
        self.wrong("cross", 1, ("limits", 3, (((0, 1), 1), ((0, 1), 2))))
        self.wrong("cross", 2, ("limits", 4, (((0, 1), 1), ((2, 3), 2), ((1, 2), 1), ((9,), 1))))
        self.wrong("cross", 1, ("limits", 4, (((0, 1, 2), 1), ((0, 1, 3), 1), None)))
        # Row by row: what crosses comes before what is wrong by itself further on, and the other way about.
        self.wrong("row", 1, ("limits", 3, (((0, 1), 1), None, ((1, 2), 1))))
        self.right(("limits", 5, (((0,), 1), ((0, 1, 2, 3), 1), ((0, 1), 1), ((2, 3), 0), ((4,), 1))), 5)

    def test_slot_rows(self):
        for row in (None, 0, [], [0], (0, 0), (1, 0), (2,), (-1,), (True,), "0", ((0,),)):
            self.wrong("row", 1, ("slots", 2, ((0, 1), row, row)))
        self.wrong("row", 0, ("slots", 0, ((0,),)))
        self.right(("slots", 0, ((), ())), 2)

    def test_web_rows(self):
        for row in (None, (), (0,), (0, 1, 1), [0, 1], (1, 0), (0, 2), (-1, 0), (False, 1), (0, True), ("0", "1"), "01"):
            self.wrong("row", 1, ("web", 2, ((1, 1), row, row)))
        self.wrong("row", 0, ("web", 0, ((0, 0),)))
        self.right(("web", 1, ((0, 0),)), 1)

    def test_number_rows(self):
        for row in (None, (), (0,), (0, 1, 1), [0, 1], (0, 3), (-1, 0), (False, 1), (0, True), ("0", "1"), "01"):
            self.wrong("row", 1, ("rows", 3, ((1, 2), row, row)))
        for row in (None, 0, [0], (3,), (True,), "0"):
            self.wrong("row", 0, ("rows", 3, (row, (1, 2))))
        self.right(("rows", 2, ((), (), ())), 3)
        for prime in (2, 3, 5, 7):
            self.right(("rows", prime, ((prime - 1,),)), 1)
            self.wrong("row", 0, ("rows", prime, ((prime,),)))

    def test_ranks_by_themselves(self):
        for rank in (None, True, False, -1, "0", (0,), [0]):
            self.wrong("row", 0, ("table", 0, (rank,)))
            self.wrong("row", 1, ("table", 1, (0, rank)))
        self.wrong("row", 0, ("table", 0, (1,)))
        self.wrong("row", 0, ("table", 1, (1, 1)))

    def test_ranks_beside_those_within(self):
        self.wrong("row", 1, ("table", 1, (0, 2)))
        self.wrong("row", 2, ("table", 2, (0, 1, 2, 2)))
        self.wrong("row", 3, ("table", 2, (0, 1, 1, 0)))
        self.wrong("row", 3, ("table", 2, (0, 1, 0, 2)))
        self.wrong("row", 3, ("table", 2, (0, 0, 1, 2)))
        self.wrong("row", 3, ("table", 2, (0, 0, 0, 1)))
        self.wrong("row", 7, ("table", 3, (0, 1, 1, 1, 1, 1, 1, 2)))
        self.wrong("row", 5, ("table", 3, (0, 1, 1, 1, 1, 3, 1, 2)))
        self.right(("table", 2, (0, 0, 0, 0)), 2)

    def test_all_small_tables(self):
        # Ranks that come from a family of lots are a house's just if the family is level.
        lots = sorted(lots_of(3), key=number_of_lot)
        for number in range(1 << 7):
            family = [()] + [lot for at, lot in enumerate(lots[1:]) if number >> at & 1]
            ranks = tuple(rank_by_free(family, lot) for lot in lots)
            told = sorted(lot for lot in lots if ranks[number_of_lot(lot)] == len(lot))
            self.exact(is_house(("table", 3, ranks)), is_level(3, told))

    def test_a_table_of_size_12(self):
        ranks = tuple(min(bin(number).count("1"), 5) for number in range(4096))
        self.right(("table", 12, ranks), 12)
        self.wrong("row", 4095, ("table", 12, ranks[:-1] + (6,)))
        self.wrong("rows", -1, ("table", 12, ranks[:-1]))

    def test_beside(self):
        for thing in ODD_THINGS + (BESIDE, ("limits", 2, [])):
            self.wrong("row", 1, ("beside", (LIMITS, thing, thing)))
            self.wrong("row", 0, ("beside", (thing, LIMITS)))
        self.right(("beside", (LIMITS, SLOTS, WEB, ROWS, TABLE)), 26)
        deep = LIMITS
        for _ in range(14):
            deep = ("beside", (deep, LIMITS))
        self.wrong("row", 0, deep)

    def test_asked_again(self):
        house = ("limits", 3, [((0, 1), 1)])
        self.wrong("rows", -1, house)
        self.wrong("rows", -1, house)
        self.exact(house, ("limits", 3, [((0, 1), 1)]))
