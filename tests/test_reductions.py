from someoneout.reductions import partner_lots, partners_promised, twin_lots, twins_refused
from tests.oracles import (free_by_ranks, kept_ranks, left_ranks, number_of_lot, rings_by_free, size_by_words,
                           table_by_words)
from tests.support import Case, EMPTY, PAIRS, TIED, TRIO, drawn_houses


def lots_by_pairs(size, pairs):
    """The lots of wishes that are all in such pairs with one another, by their least wish."""
    lots = {tuple(other for other in range(size) if other == wish or (wish, other) in pairs) for wish in range(size)}
    return tuple(sorted(lot for lot in lots if len(lot) > 1))


def twins_by_words(size, rings):
    return {pair for ring in rings if len(ring) == 2 for pair in (ring, ring[::-1])}


def partners_by_words(size, ranks, rings):
    full = 2 ** size - 1
    loose = [wish for wish in range(size) if ranks[full - 2 ** wish] == ranks[full]]
    return {(one, other) for one in loose for other in loose if one != other
            and all(other in ring for ring in rings if one in ring)}


class Reductions(Case):
    def agrees(self, house):
        size, ranks = size_by_words(house), table_by_words(house)[2]
        rings = rings_by_free(size, free_by_ranks(ranks))
        twins = lots_by_pairs(size, twins_by_words(size, rings))
        partners = lots_by_pairs(size, partners_by_words(size, ranks, rings))
        self.exact(twin_lots(house), twins)
        self.exact(partner_lots(house), partners)
        gone = [wish for lot in twins for wish in lot[1:]]
        left = [wish for wish in range(size) if wish not in gone]
        self.exact(twins_refused(house), ("table", len(left), tuple(kept_ranks(ranks, left))))
        gone = [wish for lot in partners for wish in lot[1:]]
        left = [wish for wish in range(size) if wish not in gone]
        self.assertEqual(ranks[number_of_lot(gone)], len(gone))
        self.exact(partners_promised(house), ("table", len(left), tuple(left_ranks(ranks, gone, left))))
        return len(twins), len(partners)

    def test_drawn_houses(self):
        found = [self.agrees(house) for house in TIED + tuple(drawn_houses(115, 250))]
        self.assertTrue(any(twins > 1 for twins, _ in found) and any(twins and partners for twins, partners in found))

    def test_twins_beside_partners(self):
        # The wishes 0, 1 are twins; 2, 3 partners; 4, 5 both; 6 is barred, 7 forced.
        house = ("web", 8, ((0, 1), (0, 1), (1, 2), (0, 2), (3, 4), (3, 4), (5, 5), (6, 7)))
        self.exact(twin_lots(house), ((0, 1), (4, 5)))
        self.exact(partner_lots(house), ((2, 3), (4, 5)))
        self.agrees(house)

    def test_edges(self):
        for house in EMPTY:
            self.exact((twin_lots(house), partner_lots(house)), ((), ()))
            self.exact((twins_refused(house), partners_promised(house)), (("table", 0, (0,)),) * 2)
        for house, table in ((("limits", 1, ()), ("table", 1, (0, 1))), (("limits", 1, (((0,), 0),)), ("table", 1, (0, 0)))):
            self.exact((twin_lots(house), partner_lots(house)), ((), ()))
            self.exact((twins_refused(house), partners_promised(house)), (table, table))
        self.exact((twin_lots(PAIRS[0]), partner_lots(TRIO[0])), (((0, 1), (2, 3)), ((0, 1, 2),)))
        self.exact((twins_refused(PAIRS[0]), partners_promised(TRIO[0])),
                   (("table", 2, (0, 1, 1, 2)), ("table", 1, (0, 0))))
        barred = ("limits", 2, (((0, 1), 0),))
        self.exact((twin_lots(barred), partner_lots(barred)), ((), ()))

    def test_by_name(self):
        self.exact((twin_lots(house=PAIRS[0]), partner_lots(house=TRIO[0])), (((0, 1), (2, 3)), ((0, 1, 2),)))
        self.exact((twins_refused(house=PAIRS[0]), partners_promised(house=TRIO[0])),
                   (("table", 2, (0, 1, 1, 2)), ("table", 1, (0, 0))))
