import random

from someoneout.healing import changed_circle, healing_wishes, joined_circle
from someoneout.houses import seats_house
from tests.oracles import (free_lots, full_zones_by_words, left_ranks, lots_of, size_by_words, table_by_words)
from tests.support import (Case, EMPTY, ODD_THINGS, PAIRS, SEAT, TRIO, drawn_circles, single_circles, wrong_wishes)

BARRED = (("limits", 3, (((0, 1), 1), ((2,), 0))), 2, (0, 1, 0), ((0, 4), (0, 4), (0, 4)))
WRONG_DEEDS = tuple(thing for thing in ODD_THINGS) + ("Refuse", "promised", ("refuse",), ["promise"], "refuse ")


def changed_by_words(circle, wish, deed):
    """The circle of the others with the wish refused or promised, by ranks."""
    ranks = table_by_words(circle[0])[2]
    left = tuple(other for other in range(len(circle[2])) if other != wish)
    house = ("table", len(left), tuple(left_ranks(ranks, (wish,) if deed == "promise" else (), left)))
    return (house, circle[1], tuple(circle[2][other] for other in left), tuple(circle[3][other] for other in left))


class Healing(Case):
    def circles(self, seed, many):
        for ends in ((0, 3, 8), (0, 10 ** 30), (0, 1)):
            yield from drawn_circles(seed, many, 5, ends)
            yield from single_circles(seed, many // 2, ends)

    def test_changed(self):
        for circle in self.circles(270, 40):
            free = free_lots(circle[0])
            for wish in range(len(circle[2])):
                self.exact(changed_circle(circle, wish, "refuse"), changed_by_words(circle, wish, "refuse"))
                if (wish,) in free:
                    self.exact(changed_circle(circle, wish, "promise"), changed_by_words(circle, wish, "promise"))
                else:
                    self.not_usable("deed", changed_circle, circle, wish, "promise")

    def test_healing(self):
        found = set()
        for circle in self.circles(271, 40):
            free = free_lots(circle[0])
            for deed in ("refuse", "promise"):
                wishes = [wish for wish in range(len(circle[2])) if deed == "refuse" or (wish,) in free]
                healing = tuple(wish for wish in wishes if not full_zones_by_words(changed_by_words(circle, wish, deed)))
                self.exact(healing_wishes(circle, deed), healing)
                found.add((deed, len(healing) > 0, len(healing) < len(wishes)))
        self.assertTrue(len(found) >= 6, found)

    def test_known(self):
        self.exact(changed_circle(SEAT, 0, "refuse"), (("table", 1, (0, 1)), 2, (1,), ((0, 4),)))
        self.exact(changed_circle(SEAT, 1, "promise"), (("table", 1, (0, 0)), 2, (0,), ((0, 4),)))
        self.exact((healing_wishes(TRIO, "refuse"), healing_wishes(TRIO, "promise")), ((0, 1, 2), (0, 1, 2)))
        self.exact((healing_wishes(BARRED, "promise"), healing_wishes(BARRED, "refuse")), ((0, 1), (0, 1)))
        twice = (("limits", 4, (((0, 1), 1), ((2, 3), 1))), 2, (0, 1, 0, 1), ((0, 4),) * 4)
        self.exact((healing_wishes(twice, "refuse"), healing_wishes(twice, "promise")), ((), ()))
        for house in EMPTY:
            self.exact((healing_wishes((house, 2, (), ()), "refuse"), healing_wishes((house, 2, (), ()), "promise")),
                       ((), ()))
        self.not_usable("deed", changed_circle, BARRED, 2, "promise")
        self.exact(changed_circle(BARRED, 2, "refuse"), (("table", 2, (0, 1, 1, 1)), 2, (0, 1), ((0, 4), (0, 4))))

    def test_wrong_parameters(self):
        for thing in wrong_wishes(2):
            self.not_usable("wish", changed_circle, SEAT, thing, None)
        for thing in WRONG_DEEDS:
            self.not_usable("deed", changed_circle, SEAT, 0, thing)
            self.not_usable("deed", healing_wishes, SEAT, thing)
            self.not_usable("deed", healing_wishes, (EMPTY[0], 2, (), ()), thing)

    def test_by_name(self):
        self.exact((changed_circle(deed="refuse", wish=0, circle=SEAT)[2], healing_wishes(deed="refuse", circle=SEAT)),
                   ((1,), (0, 1)))


class Joined(Case):
    def test_drawn_circles(self):
        dice = random.Random(272)
        many = 0
        for circle in drawn_circles(272, 80, 6):
            size = len(circle[2])
            first = tuple(range(dice.randrange(size + 1)))
            ranks = table_by_words(circle[0])[2]
            old = (("table", len(first), tuple(ranks[:2 ** len(first)])), circle[1], circle[2][:len(first)],
                   circle[3][:len(first)])
            more = tuple(tuple(sorted((dice.randrange(9), dice.randrange(9)))) for _ in range(size - len(first)))
            self.exact(joined_circle(old, circle[0], more),
                       (circle[0], circle[1] + 1, old[2] + (circle[1],) * len(more), old[3] + more))
            many += len(more) > 0
        self.assertGreater(many, 30)

    def test_known(self):
        house = ("limits", 3, (((0, 1), 1), ((0, 1, 2), 2)))
        self.exact(joined_circle(SEAT, house, ((1, 9),)), (house, 3, (0, 1, 2), ((0, 4), (0, 4), (1, 9))))
        # Without further wishes somebody joins all the same.
        self.exact(joined_circle(SEAT, SEAT[0], ()), (SEAT[0], 3, (0, 1), SEAT[3]))
        self.exact(joined_circle(SEAT, ("web", 2, ((0, 1), (0, 1))), ()), (("web", 2, ((0, 1), (0, 1))), 3) + SEAT[2:])
        empty = (EMPTY[0], 2, (), ())
        self.exact(joined_circle(empty, SEAT[0], ((0, 0), (5, 5))), (SEAT[0], 3, (2, 2), ((0, 0), (5, 5))))
        for other in EMPTY:
            self.exact(joined_circle(empty, other, ()), (other, 3, (), ()))

    def test_wrong_houses(self):
        for thing in ODD_THINGS + (list(SEAT[0]), ("limits", 2), ("limits", 2, (((0, 1), 2),)), ("limits", 2, ()),
                                   seats_house(1, 1), seats_house(3, 2), ("table", 1, (0, 1)), EMPTY[0], SEAT,
                                   ("limits", 3, (((0, 2), 1),))):
            self.not_usable("house", joined_circle, SEAT, thing, None)
        self.exact(joined_circle(SEAT, seats_house(3, 1), ((0, 1),))[1:], (3, (0, 1, 2), ((0, 4), (0, 4), (0, 1))))

    def test_wrong_stretches(self):
        for thing in ODD_THINGS + ([(0, 1)], ((0, 1), (0, 1)), ((1, 0),), ((0, True),), ([0, 1],), ((0,),), ((-1, 0),)):
            self.not_usable("stretches", joined_circle, SEAT, seats_house(3, 1), thing)
        for thing in (((0, 1),), [], None):
            self.not_usable("stretches", joined_circle, SEAT, SEAT[0], thing)
        self.not_usable("stretches", joined_circle, SEAT, seats_house(3, 1), ())

    def test_kept_ranks(self):
        # All lots of the first wishes count, not the single ones alone.
        old = (("limits", 3, (((0, 1, 2), 2),)), 2, (0, 1, 0), ((0, 1),) * 3)
        for house in (("limits", 4, (((0, 1, 2), 1),)), ("limits", 4, ()), ("limits", 4, (((0, 1, 3), 2), ((0, 1), 1)))):
            self.not_usable("house", joined_circle, old, house, ((0, 1),))
        good = ("limits", 4, (((0, 1, 2, 3), 2),))
        self.exact(joined_circle(old, good, ((0, 1),))[0], good)
        self.assertEqual(len(lots_of(size_by_words(good))), 16)

    def test_by_name(self):
        self.exact(joined_circle(stretches=(), house=SEAT[0], circle=SEAT), (SEAT[0], 3, (0, 1), SEAT[3]))
