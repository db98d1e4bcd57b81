import random
from itertools import permutations

from someoneout.poolchecker import is_pool, lets_pool
from someoneout.pools import desk_pool, queue_pool, wants_pool
from tests.oracles import lots_of, number_of_lot, pool_lots
from tests.support import Case, ODD_THINGS, drawn_pools, random_units

POOL = ((0, 1, 1, 1), ((0, 4), (0, 4)))
THREE = ((0, 2, 1, 3, 1, 3, 2, 3), ((0, 4), (1, 4), (2, 2)))


def is_units_by_words(people, units):
    """[10], lot by lot: whoever is put to a lot adds at least 0, and no more than if put to any lot within it."""
    def at(lot):
        return units[number_of_lot(lot)]
    if units[0] != 0 or any(unit < 0 for unit in units):
        return False
    for lot in lots_of(people):
        for person in set(range(people)) - set(lot):
            adds = at(tuple(sorted(lot + (person,)))) - at(lot)
            for part in lots_of(people):
                if set(part) <= set(lot) and not 0 <= adds <= at(tuple(sorted(part + (person,)))) - at(part):
                    return False
    return True


class Pools(Case):
    def test_drawn_pools(self):
        for pool in drawn_pools(230, 100):
            self.assertTrue(is_units_by_words(len(pool[1]), pool[0]))
            self.exact((is_pool(pool), lets_pool(pool)), (True, len(pool[1])))

    def test_bent_units(self):
        dice = random.Random(231)
        many = [0, 0]
        for _ in range(400):
            people = dice.choice((2, 3, 4))
            units = list(random_units(dice, people))
            units[dice.randrange(2 ** people)] += dice.choice((-1, 1))
            right = is_units_by_words(people, units)
            many[right] += 1
            self.exact(is_pool((tuple(units), ((0, 1),) * people)), right)
        self.assertTrue(min(many) > 20, many)

    def test_twelve_persons(self):
        units = tuple(min(3, bin(number).count("1")) for number in range(2 ** 12))
        self.exact(lets_pool((units, ((0, 9),) * 12)), 12)
        self.wrong_paper("unit", 4095, lets_pool, (units[:-1] + (4,), ((0, 9),) * 12))
        self.exact(lets_pool((tuple(10 ** 59 * unit for unit in units[:4]), ((0, 10 ** 59),) * 2)), 2)


class Refused(Case):
    def wrong(self, word, at, thing):
        self.exact(is_pool(thing), False)
        self.wrong_paper(word, at, lets_pool, thing)

    def test_shape(self):
        for thing in ODD_THINGS + (list(POOL), POOL + (0,), POOL[:1]):
            if not (isinstance(thing, tuple) and len(thing) == 2):
                self.wrong("shape", -1, thing)

    def test_stretches(self):
        for thing in ODD_THINGS + ([(0, 4), (0, 4)], (), ((0, 4),), ((0, 4),) * 13):
            if not (isinstance(thing, tuple) and 2 <= len(thing) <= 12):
                self.wrong("stretches", -1, (None, thing))
        for thing in ODD_THINGS + ((4, 3), (0, True), [0, 4], (0, 4, 4), (0,), (-1, 4), (False, 4), (0, None)):
            if thing != (0, 0):
                self.wrong("stretch", 0, (None, (thing, None)))
                self.wrong("stretch", 1, (None, ((0, 4), thing, (0, 4))))

    def test_units(self):
        for thing in ODD_THINGS + (list(POOL[0]), (0, 1, 1), (0, 1, 1, 1, 1), {}, ()):
            self.wrong("units", -1, (thing, POOL[1]))
        self.wrong("units", -1, (POOL[0], THREE[1]))
        for number in range(4):
            for thing in (True, None, -1, "0", (), [0], (0,), False):
                self.wrong("unit", number, (POOL[0][:number] + (thing,) + POOL[0][number + 1:], POOL[1]))
        self.wrong("unit", 0, ((1, 1, 1, 1), POOL[1]))
        # Less than without a person; more than both add by themselves.
        self.wrong("unit", 3, ((0, 1, 2, 1), POOL[1]))
        self.wrong("unit", 3, ((0, 2, 1, 1), POOL[1]))
        self.wrong("unit", 3, ((0, 1, 1, 3), POOL[1]))
        self.exact(lets_pool(THREE), 3)
        self.exact(lets_pool((THREE[0][:7] + (4,), THREE[1])), 3)
        self.wrong("unit", 7, (THREE[0][:7] + (5,), THREE[1]))
        self.wrong("unit", 7, (THREE[0][:7] + (2,), THREE[1]))
        self.wrong("unit", 5, (THREE[0][:5] + (4,) + THREE[0][6:], THREE[1]))
        # The first one by the lots' numbers.
        self.wrong("unit", 3, ((0, 1, 1, 3, -1, None, 0, 0), THREE[1]))

    def test_by_name(self):
        self.exact((is_pool(thing=POOL), lets_pool(thing=POOL)), (True, 2))


class Made(Case):
    def stretches(self, dice, people):
        return tuple(tuple(sorted((dice.randrange(9), dice.randrange(9)))) for _ in range(people))

    def test_queues(self):
        dice = random.Random(232)
        for _ in range(60):
            people = dice.randrange(2, 6)
            costs = tuple(dice.choice((dice.randrange(6), 10 ** 30)) for _ in range(people))
            stretches = self.stretches(dice, people)
            pool = queue_pool(costs, stretches)
            wanted = [sum(max(costs) - cost for cost in sorted(costs)[:len(lot)]) for lot in pool_lots(people)]
            self.exact(pool, (tuple(wanted), stretches))
            self.exact(lets_pool(pool), people)

    def test_desks(self):
        dice = random.Random(233)
        for _ in range(60):
            people = dice.randrange(2, 6)
            lengths = tuple(dice.choice((dice.randrange(1, 6), 10 ** 30)) for _ in range(people))
            stretches = self.stretches(dice, people)
            pool = desk_pool(lengths, stretches)
            for lot in pool_lots(people):
                # In any sequence it is the same.
                for order in permutations(lot):
                    done = units = 0
                    for person in order:
                        done += lengths[person]
                        units += lengths[person] * (sum(lengths) - done)
                    self.exact(pool[0][number_of_lot(lot)], units)
            self.exact((pool[1], lets_pool(pool)), (stretches, people))

    def test_wants(self):
        dice = random.Random(234)
        for _ in range(60):
            people = dice.randrange(2, 6)
            wants = tuple(dice.choice((dice.randrange(6), 10 ** 30)) for _ in range(people))
            stretches = self.stretches(dice, people)
            for seats in (0, dice.randrange(9), 10 ** 31):
                pool = wants_pool(wants, seats, stretches)
                wanted = [min(seats, sum(wants[person] for person in lot)) for lot in pool_lots(people)]
                self.exact(pool, (tuple(wanted), stretches))
                self.exact(lets_pool(pool), people)

    def test_known(self):
        self.exact(queue_pool((1, 3, 0), ((0, 4), (0, 4), (0, 9))), ((0, 3, 3, 5, 3, 5, 5, 5), ((0, 4), (0, 4), (0, 9))))
        self.exact(queue_pool((2, 2), ((0, 4), (0, 4)))[0], (0, 0, 0, 0))
        self.exact(desk_pool((2, 3), ((0, 4), (0, 4)))[0], (0, 6, 6, 6))
        self.exact(wants_pool((2, 3), 4, ((0, 4), (0, 4)))[0], (0, 2, 3, 4))

    def test_wrong_parameters(self):
        wrong = ODD_THINGS + ([(0, 4), (0, 4)], ((0, 4),), ((0, 4),) * 3, ((0, 4), (4, 3)), ((0, 4), (0, True)),
                              ((0, 4), [0, 4]), ((0, 4), (0,)), ((-1, 4), (0, 4)), ((0, 4), None))
        for thing in wrong:
            self.not_usable("stretches", queue_pool, (1, 2), thing)
            self.not_usable("stretches", desk_pool, (1, 2), thing)
            self.not_usable("stretches", wants_pool, (1, 2), 1, thing)
        for thing in (True, False, None, -1, "0", (), (0,), [0]):
            self.not_usable("seats", wants_pool, (1, 2), thing, None)

    def test_by_name(self):
        self.exact((queue_pool(stretches=POOL[1], costs=(0, 1)), desk_pool(stretches=POOL[1], lengths=(1, 1)),
                    wants_pool(stretches=POOL[1], seats=1, wants=(1, 1))), (POOL, POOL, POOL))
