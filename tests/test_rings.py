from someoneout.rings import all_rings, cut_by, is_ring, ring_by
from tests.oracles import bases_by_free, free_lots, lots_of, rings_by_free, size_by_words
from tests.support import Case, EMPTY, LIMITS, ODD_THINGS, SAMPLES, TRIO, WEB, drawn_houses, wrong_wishes


class Rings(Case):
    def test_all_words(self):
        for house in drawn_houses(60, 120):
            size = size_by_words(house)
            free = free_lots(house)
            rings = rings_by_free(size, free)
            self.exact(all_rings(house), tuple(rings))
            for lot in lots_of(size):
                self.exact(is_ring(house, lot), lot in rings)
                for wish in range(size):
                    if lot not in free:
                        self.not_usable("lot", ring_by, house, lot, wish)
                    elif wish in lot:
                        self.not_usable("wish", ring_by, house, lot, wish)
                    else:
                        within = [ring for ring in rings if set(ring) <= set(lot) | {wish}]
                        self.assertLessEqual(len(within), 1)
                        self.exact(ring_by(house, lot, wish), within[0] if within else None)

    def test_any_value(self):
        for house in SAMPLES + EMPTY:
            for thing in ODD_THINGS + ((), (size_by_words(house),)):
                self.exact(is_ring(house, thing), False)
        for thing in ([0, 1, 2], (2, 1, 0), (0, True, 2), (False, 1, 2), (0, 1), (0, 1, 2, 3)):
            self.exact(is_ring(TRIO[0], thing), False)
        self.exact(is_ring(TRIO[0], (0, 1, 2)), True)

    def test_barred_and_forced(self):
        house = ("limits", 4, (((0,), 0), ((1, 2), 1)))
        self.exact(all_rings(house), ((0,), (1, 2)))
        self.exact(is_ring(house, (0,)), True)
        self.exact(is_ring(house, (0, 3)), False)
        self.exact(ring_by(house, (), 0), (0,))
        self.exact(ring_by(house, (1, 3), 0), (0,))
        self.exact(ring_by(house, (1,), 3), None)
        self.exact(cut_by(house, (1, 3), 1), (1, 2))
        self.exact(cut_by(house, (1, 3), 3), (3,))

    def test_without_wishes_and_eight(self):
        for house in EMPTY:
            self.exact(all_rings(house), ())
            self.not_usable("wish", ring_by, house, (), 0)
            self.not_usable("wish", cut_by, house, (), 0)
        house = ("limits", 8, ((tuple(range(8)), 3),))
        self.assertEqual(len(all_rings(house)), 70)
        self.exact(all_rings(house)[-1], (4, 5, 6, 7))
        self.exact(cut_by(house, (0, 1, 2), 1), (1, 3, 4, 5, 6, 7))

    def test_wrong_lots(self):
        for house in SAMPLES:
            for thing in ODD_THINGS + ((size_by_words(house),),):
                self.not_usable("lot", ring_by, house, thing, None)
        self.not_usable("lot", ring_by, TRIO[0], (0, 1, 2), 0)
        for thing in wrong_wishes(6):
            self.not_usable("wish", ring_by, LIMITS, (), thing)
        self.not_usable("wish", ring_by, LIMITS, (0, 2), 2)

    def test_by_name(self):
        self.exact(ring_by(wish=2, lot=(0, 1), house=WEB), (0, 1, 2))
        self.exact(is_ring(thing=(3,), house=WEB), True)
        self.exact(cut_by(wish=0, base=(0, 1, 5), house=WEB), (0, 2, 4))


class Cuts(Case):
    def test_all_words(self):
        for house in drawn_houses(61, 120):
            size = size_by_words(house)
            bases = bases_by_free(free_lots(house))
            for lot in lots_of(size):
                for wish in range(size):
                    if lot not in bases:
                        self.not_usable("base", cut_by, house, lot, wish)
                    elif wish not in lot:
                        self.not_usable("wish", cut_by, house, lot, wish)
                    else:
                        rest = set(lot) - {wish}
                        cut = tuple(other for other in range(size)
                                    if tuple(sorted(rest | {other})) in bases)
                        self.exact(cut_by(house, lot, wish), cut)

    def test_wrong_bases_and_wishes(self):
        for thing in ODD_THINGS + ((), (0,), (0, 1, 2), (0, 3), (1, 0), [0, 1], (0, True)):
            self.not_usable("base", cut_by, TRIO[0], thing, None)
            self.not_usable("base", cut_by, TRIO[0], thing, 0)
        for thing in wrong_wishes(3):
            self.not_usable("wish", cut_by, TRIO[0], (0, 1), thing)
        self.not_usable("wish", cut_by, TRIO[0], (0, 1), 2)
