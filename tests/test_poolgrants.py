import random

from someoneout.poolgrants import granted_units, pool_worth, units_fit
from tests.oracles import all_units, number_of_lot, pool_worth_by_words
from tests.support import Case, ODD_THINGS, drawn_pools

POOL = ((0, 1, 1, 1), ((0, 4), (0, 4)))
THREE = ((0, 2, 1, 3, 1, 3, 2, 3), ((0, 4), (0, 4), (2, 9)))


def drawn_pool_tellings(dice, pool):
    yield tuple(low for low, _ in pool[1])
    yield tuple(high for _, high in pool[1])
    yield tuple((low + high) // 2 for low, high in pool[1])
    for _ in range(3):
        yield tuple(dice.randrange(low, high + 1) for low, high in pool[1])


class PoolGrants(Case):
    def test_drawn_pools(self):
        dice = random.Random(235)
        for ends in ((0, 1, 3, 4, 9), (0, 10 ** 30), (2, 3)):
            for pool in drawn_pools(235, 60, ends):
                units = all_units(pool)
                for telling in drawn_pool_tellings(dice, pool):
                    got = granted_units(pool, telling)
                    taken = ()
                    wanted = [0] * len(telling)
                    for person in sorted(range(len(telling)), key=lambda one: (-telling[one], one)):
                        more = tuple(sorted(taken + (person,)))
                        wanted[person] = pool[0][number_of_lot(more)] - pool[0][number_of_lot(taken)]
                        taken = more
                    self.exact(got, tuple(wanted))
                    self.assertIn(got, units)
                    worth = pool_worth_by_words(units, telling)
                    self.exact(pool_worth(pool, telling), worth)
                    self.assertEqual(sum(one * other for one, other in zip(telling, got)), worth)

    def test_fit(self):
        dice = random.Random(236)
        many = [0, 0]
        for pool in drawn_pools(236, 60):
            units = set(all_units(pool))
            for _ in range(20):
                thing = tuple(dice.randrange(max(pool[0]) + 2) for _ in pool[1])
                many[thing in units] += 1
                self.exact(units_fit(pool, thing), thing in units)
        self.assertTrue(min(many) > 100, many)

    def test_known(self):
        self.exact((granted_units(POOL, (1, 3)), granted_units(POOL, (3, 3)), pool_worth(POOL, (1, 3))),
                   ((0, 1), (1, 0), 3))
        self.exact((granted_units(THREE, (4, 0, 4)), pool_worth(THREE, (4, 0, 4))), ((2, 0, 1), 12))
        self.exact([units_fit(POOL, thing) for thing in ((0, 0), (1, 0), (0, 1), (1, 1), (0, 2))],
                   [True, True, True, False, False])
        for thing in ODD_THINGS + ([0, 1], (0, 1, 0), (0,), (), (True, 0), (0, False), (0, -1), (None, 0), ((0,), 0)):
            if thing not in ((0, 0), (1, 0)):
                self.exact(units_fit(POOL, thing), False)

    def test_wrong_tellings(self):
        for thing in ODD_THINGS + ((5, 0), (0, 5), (0,), (), (0, 0, 0), [0, 0], (True, 0), (0, (1, 2)), (0, None)):
            if thing not in ((0, 0), (1, 0)):
                self.not_usable("telling", granted_units, POOL, thing)
                self.not_usable("telling", pool_worth, POOL, thing)
        self.not_usable("telling", pool_worth, THREE, (0, 0, 1))

    def test_by_name(self):
        self.exact((granted_units(telling=(1, 3), pool=POOL), pool_worth(telling=(1, 3), pool=POOL),
                    units_fit(thing=(0, 1), pool=POOL)), ((0, 1), 3, True))
