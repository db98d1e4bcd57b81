import random
from collections import Counter

from someoneout.leans import inner_least, lean_bases, lets_lean, outer_least, spread_of
from tests.oracles import bases_by_free, cut_by_free, free_lots, ring_by_free, size_by_words
from tests.support import Case, EMPTY, ODD_THINGS, TIED, TRIO, drawn_houses, wrong_lots

WRONG_ORDERS = ODD_THINGS + ((), (0, 1), (0, 1, 1), (0, 1, 3), (0, 1, 2, 3), [0, 1, 2], (0, True, 2), (False, 1, 2))


def drawn_orders(dice, size):
    yield tuple(range(size))
    yield tuple(range(size))[::-1]
    yield tuple(dice.sample(range(size), size))


def leasts_by_words(size, free, order, base):
    """The inner and the outer least wishes, straight from cuts and rings."""
    place = {wish: at for at, wish in enumerate(order)}
    inner = [wish for wish in base
             if place[wish] == min(place[other] for other in cut_by_free(size, free, base, wish))]
    outer = [wish for wish in range(size) if wish not in base
             and place[wish] == min(place[other] for other in ring_by_free(size, free, base, wish))]
    return tuple(inner), tuple(outer)


class Leans(Case):
    def agrees(self, house, order):
        size, free = size_by_words(house), free_lots(house)
        many = Counter()
        lean = []
        for base in bases_by_free(free):
            inner, outer = leasts_by_words(size, free, order, base)
            self.exact(inner_least(house, order, base), inner)
            self.exact(outer_least(house, order, base), outer)
            many[len(inner), len(outer)] += 1
            if len(inner) != 1:
                self.wrong_paper("inner", -1, lets_lean, house, order, base)
            elif outer:
                self.wrong_paper("outer", -1, lets_lean, house, order, base)
            else:
                self.exact(lets_lean(house, order, base), inner[0])
                lean.append(base)
        self.exact(lean_bases(house, order), tuple(sorted(lean)))
        self.exact(spread_of(house, order), tuple((i, j, many[i, j]) for i, j in sorted(many)))

    def test_drawn_houses(self):
        dice = random.Random(112)
        for house in TIED + tuple(drawn_houses(112, 60)):
            if size_by_words(house) < 6:
                for order in drawn_orders(dice, size_by_words(house)):
                    self.agrees(house, order)

    def test_eight_wishes(self):
        house = ("limits", 8, ((tuple(range(8)), 4),))
        order = (3, 1, 4, 0, 5, 2, 6, 7)
        self.exact(len(lean_bases(house, order)), 20)
        self.exact(sum(many for _, _, many in spread_of(house, order)), 70)

    def test_edges(self):
        for house in EMPTY:
            self.exact((inner_least(house, (), ()), outer_least(house, (), ())), ((), ()))
            self.exact((lean_bases(house, ()), spread_of(house, ())), ((), ((0, 0, 1),)))
            self.wrong_paper("inner", -1, lets_lean, house, (), ())
        forced, barred = ("limits", 1, ()), ("limits", 1, (((0,), 0),))
        self.exact((inner_least(forced, (0,), (0,)), outer_least(barred, (0,), ())), ((0,), (0,)))
        self.exact((lean_bases(forced, (0,)), lean_bases(barred, (0,))), (((0,),), ()))
        self.exact(inner_least(TRIO[0], (2, 0, 1), (0, 2)), (0, 2))
        self.exact(inner_least(TRIO[0], (2, 1, 0), (0, 2)), (2,))

    def test_wrong_orders(self):
        for thing in WRONG_ORDERS:
            self.not_usable("order", inner_least, TRIO[0], thing, None)
            self.not_usable("order", outer_least, TRIO[0], thing, None)
            self.not_usable("order", lean_bases, TRIO[0], thing)
            self.not_usable("order", spread_of, TRIO[0], thing)
            self.not_usable("order", lets_lean, TRIO[0], thing, None)

    def test_wrong_bases(self):
        for thing in wrong_lots(3) + ((), (0,), (0, 1, 2)):
            self.not_usable("base", inner_least, TRIO[0], (0, 1, 2), thing)
            self.not_usable("base", outer_least, TRIO[0], (0, 1, 2), thing)
            self.wrong_paper("base", -1, lets_lean, TRIO[0], (0, 1, 2), thing)

    def test_known(self):
        self.exact(lets_lean(TRIO[0], (0, 1, 2), (0, 2)), 0)
        self.wrong_paper("inner", -1, lets_lean, TRIO[0], (0, 1, 2), (0, 1))
        self.wrong_paper("inner", -1, lets_lean, TRIO[0], (0, 1, 2), (1, 2))
        # Not just one inner least wish goes before an outer least one.
        self.wrong_paper("inner", -1, lets_lean, ("limits", 3, (((2,), 0),)), (0, 1, 2), (0, 1))
        self.wrong_paper("outer", -1, lets_lean, ("limits", 2, (((1,), 0),)), (0, 1), (0,))

    def test_by_name(self):
        self.exact(inner_least(base=(0, 1), order=(0, 1, 2), house=TRIO[0]), (0, 1))
        self.exact(outer_least(base=(1, 2), order=(0, 1, 2), house=TRIO[0]), (0,))
        self.exact(lean_bases(order=(0, 1, 2), house=TRIO[0]), ((0, 2),))
        self.exact(spread_of(order=(0, 1, 2), house=TRIO[0]), ((0, 1, 1), (1, 0, 1), (2, 0, 1)))
        self.exact(lets_lean(thing=(0, 2), order=(0, 1, 2), house=TRIO[0]), 0)
