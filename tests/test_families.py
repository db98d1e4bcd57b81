from itertools import combinations

from someoneout.errors import InvalidPaper, Unlevel
from someoneout.families import house_by_lots, lets_fault, level_fault
from someoneout.housechecker import is_house
from someoneout.ranks import rank_table
from tests.oracles import free_lots, is_level, lots_of, number_of_lot, rank_by_free
from tests.support import Case, ODD_THINGS, SAMPLES, random_houses

NOT_TOLD = tuple(thing for thing in ODD_THINGS if thing != ((),)) + ([()], ((0,),), ((), ()), ((), (1,), (0,)), ((), (0,), (0,)), ((0,), ()), ((), (3,)),
                         ((), [0]), ((), (True,)), ((), (0, 0)), ((), (1, 0)), ((), 0), ((), None))
# Two wishes alone, or one other: no two of these lots are equally long, and nothing told is longer.
UNLEVEL = ((), (0,), (0, 1), (1,), (2,))


class Faults(Case):
    def all_families(self, size):
        """All ascending families with ()."""
        lots = lots_of(size)[1:]
        for many in range(len(lots) + 1):
            for family in combinations(lots, many):
                yield ((),) + family

    def first_part(self, lots):
        for lot in lots:
            for part in sorted(combinations(lot, len(lot) - 1)) if lot else ():
                if part not in lots:
                    return ("part", lot, part)
        return None

    def test_all_families_of_three(self):
        for lots in self.all_families(3):
            fault = level_fault(3, lots)
            self.exact(fault is None, is_level(3, lots))
            self.exact(level_fault(3, lots), fault)
            if fault is None:
                ranks = tuple(rank_by_free(lots, lot) for lot in sorted(lots_of(3), key=number_of_lot))
                self.exact(house_by_lots(3, lots), ("table", 3, ranks))
                self.assertTrue(is_house(("table", 3, ranks)))
                continue
            self.exact(lets_fault(3, lots, fault), len(fault[1]))
            if self.first_part(lots) is not None:
                self.exact(fault, self.first_part(lots))
            else:
                self.assertEqual(fault[0], "level")
            with self.assertRaises(Unlevel) as caught:
                house_by_lots(3, lots)
            self.exact(lets_fault(3, lots, caught.exception.fault), len(caught.exception.fault[1]))

    def test_free_lots_of_houses_are_level(self):
        for house in SAMPLES + tuple(random_houses(5, 100)):
            free = tuple(free_lots(house))
            size = len(rank_table(house)).bit_length() - 1
            self.exact(level_fault(size, free), None)
            self.exact(house_by_lots(size, free), ("table", size, rank_table(house)))

    def test_edges(self):
        self.exact(level_fault(0, ((),)), None)
        self.exact(house_by_lots(0, ((),)), ("table", 0, (0,)))
        self.exact(house_by_lots(3, ((),)), ("table", 3, (0,) * 8))
        self.exact(level_fault(6, tuple(lots_of(6))), None)
        self.exact(level_fault(4, ((), (0, 1, 2), (1, 2))), ("part", (0, 1, 2), (0, 1)))
        self.exact(level_fault(4, ((), (0, 1), (0, 1, 2), (0, 2), (1, 2))), ("part", (0, 1), (0,)))
        self.exact(level_fault(4, ((), (1, 3), (2,), (3,))), ("part", (1, 3), (1,)))

    def test_what_is_not_told(self):
        for thing in NOT_TOLD:
            self.not_usable("lots", level_fault, 3, thing)
            self.not_usable("lots", house_by_lots, 3, thing)
            self.not_usable("lots", lets_fault, 3, thing, None)

    def test_lets_fault_by_parts(self):
        lots = ((), (0,), (0, 1), (0, 1, 2), (2,))
        self.exact(lets_fault(3, lots, ("part", (0, 1), (1,))), 2)
        self.exact(lets_fault(3, lots, ("part", (0, 1, 2), (1, 2))), 3)
        self.exact(lets_fault(3, lots, ("part", (0, 1, 2), (0, 2))), 3)

    def test_lets_fault_by_levels(self):
        self.exact(level_fault(3, UNLEVEL)[0], "level")
        for one, other in (((0, 1), (2,)), ((2,), (0, 1))):
            self.exact(lets_fault(3, UNLEVEL, ("level", (0, 1, 2), one, other)), 3)

    def wrong(self, word, lots, thing):
        self.refused(InvalidPaper, {"word": word, "at": -1}, lets_fault, 3, lots, thing)

    def test_shape(self):
        for thing in ODD_THINGS + ((), ("part",), ("level",), ("part", (0,)), ("part", (0,), (), ()), ("level", (0,), (0,)), ["part", (0, 1), (0,)],
                                   ("level", (0,), (0,), (), ()), ("part", (0, 3), (0,)), ("part", (0, 1), [0]),
                                   ("part", (0, 1), (True,)), ("level", (0, 1), (0,), (3,)), ("level", None, (0,), ()),
                                   ("other", (0, 1), (0,)), (["part"], (0, 1), (0,))):
            self.wrong("shape", UNLEVEL, thing)

    def test_refused_parts(self):
        lots = ((), (0,), (0, 1), (2,))
        self.wrong("told", lots, ("part", (1, 2), (1,)))
        self.wrong("told", lots, ("part", (0, 1, 2), (0, 1)))
        self.wrong("part", lots, ("part", (0, 1), (0,)))
        self.wrong("part", lots, ("part", (0, 1), (0, 2)))
        self.wrong("part", lots, ("part", (0, 1), (0, 1)))
        self.wrong("part", ((), (0, 1)), ("part", (0, 1), ()))
        self.wrong("part", lots, ("part", (), ()))
        self.wrong("part", lots, ("part", (), (1,)))

    def test_refused_levels(self):
        self.wrong("told", UNLEVEL, ("level", (0, 1, 2), (0, 2), (2,)))
        self.wrong("told", UNLEVEL, ("level", (0, 1), (2,), (0, 2)))
        self.wrong("within", UNLEVEL, ("level", (0, 1), (0, 1), (2,)))
        self.wrong("within", UNLEVEL, ("level", (1, 2), (0,), (1,)))
        self.wrong("greater", UNLEVEL, ("level", (0, 1, 2), (0,), (2,)))
        self.wrong("greater", UNLEVEL, ("level", (0, 1, 2), (2,), ()))
        self.wrong("greater", UNLEVEL, ("level", (0, 1, 2), (0, 1), ()))
        self.wrong("length", UNLEVEL, ("level", (0, 2), (0,), (2,)))
        self.wrong("length", UNLEVEL, ("level", (0, 1, 2), (0, 1), (0, 1)))

    def test_greater_by_more_than_one_wish(self):
        self.wrong("greater", ((), (0,), (0, 1, 2), (1, 2)), ("level", (0, 1, 2), (0,), (1, 2)))
        self.wrong("greater", ((), (0,), (0, 1, 2)), ("level", (0, 2), (0,), ()))
        # A longer lot that is not within the lot does not count.
        self.exact(lets_fault(4, ((), (0,), (0, 1, 2), (2, 3)), ("level", (0, 2, 3), (0,), (2, 3))), 3)
