import random

from someoneout.errors import Full
from someoneout.settling import round_circle, settle_by, taken_lot
from tests.officebook import circle_by_takers, drawn_house, settled_by_words, triple_by_words
from tests.oracles import is_free_by_words, size_by_words
from tests.support import Case, EMPTY, ODD_THINGS, PAIRS, SEAT, TRIO

TWO = (("limits", 2, (((0, 1), 1),)), ((0, 0, 4, 3), (1, 0, 4, 1)))
WRONG_TAKERS = ((0, 0, 4), (0, 0, 4, 3, 0), [0, 0, 4, 3], (True, 0, 4, 3), (-1, 0, 4, 3), (None, 0, 4, 3), (0, 4, 3, 3),
                (0, True, 4, 3), (0, 0, None, None), (0, -1, 4, 3), (0, 0, 4, 5), (0, 1, 4, 0), (0, 0, 4, True),
                (0, 0, 4, False), (0, 0, 4, -1), (0, 0, 4, "3"), (0, 0, 4, (3,)), (0, (0, 4), 3), True, 0, "", (), [])


def drawn_takers(dice, house, people, told):
    takers = []
    for _ in range(size_by_words(house)):
        low, high = sorted((dice.choice((0, 1, 5, 10 ** 30)), dice.choice((0, 3, 5, 10 ** 30))))
        worth = dice.choice((low, high, (low + high) // 2)) if told or dice.random() < 0.5 else None
        takers.append((dice.randrange(people), low, high, worth) if dice.random() < 0.8 else None)
    return tuple(takers)


class Settling(Case):
    def rounds(self, seed, many, told):
        dice = random.Random(seed)
        for _ in range(many):
            people = dice.choice((2, 2, 3, 4, 5))
            house = drawn_house(dice)
            yield people, house, drawn_takers(dice, house, people, told)

    def test_circles(self):
        for people, house, takers in self.rounds(280, 150, False):
            self.exact(taken_lot(takers), tuple(wish for wish, taker in enumerate(takers) if taker is not None))
            self.exact(round_circle(people, house, takers), circle_by_takers(people, house, takers))

    def test_settled(self):
        found = {}
        for people, house, takers in self.rounds(281, 150, True):
            ways = ["others", "handed"]
            for wish, taker in enumerate(takers):
                for deed in ("refuse", "promise"):
                    if taker is None or deed == "promise" and not is_free_by_words(house, (wish,)):
                        self.not_usable("way", settle_by, people, house, takers, (deed, wish))
                    else:
                        ways.append((deed, wish))
            for way in ways:
                full = settled_by_words(people, house, takers, way)[3]
                kind = (way if isinstance(way, str) else way[0], way != "others" and len(full) > 0)
                found[kind] = found.get(kind, 0) + 1
                if kind[1]:
                    self.refused(Full, {"zone": None, "lot": full[0]}, settle_by, people, house, takers, way)
                else:
                    triple = settle_by(people, house, takers, way)
                    self.exact(triple, triple_by_words(people, house, takers, way))
                    self.assertTrue(triple[2] >= 0 and (way == "others" or triple[2] == 0))
        self.assertTrue(len(found) == 7 and min(found.values()) > 3, found)

    def test_known(self):
        self.exact(settle_by(2, TWO[0], TWO[1], "others"), ((0,), (1, 0), 1))
        self.exact(settle_by(2, TWO[0], TWO[1], ("promise", 1)), ((1,), (0, 0), 0))
        self.exact(settle_by(2, TWO[0], TWO[1], ("refuse", 0)), ((1,), (0, 0), 0))
        self.exact(settle_by(3, TWO[0], TWO[1], "handed"), ((0,), (1, 0, -1), 0))
        self.refused(Full, {"zone": None, "lot": (0, 1)}, settle_by, 2, TWO[0], TWO[1], "handed")
        self.exact((taken_lot(TWO[1]), taken_lot((None,)), taken_lot((None, (9, 0, 0, None)))), ((0, 1), (), (1,)))
        # The full piece has the numbers of the round, also if wishes are not taken or refused.
        house = ("limits", 5, (((0, 1), 1), ((2, 3, 4), 1)))
        takers = (None, (0, 0, 4, 1), (0, 0, 4, 2), (0, 0, 4, 3), (1, 0, 4, 4))
        self.refused(Full, {"zone": None, "lot": (2, 3, 4)}, settle_by, 2, house, takers, "handed")
        self.refused(Full, {"zone": None, "lot": (3, 4)}, settle_by, 2, house, takers, ("refuse", 2))
        self.refused(Full, {"zone": None, "lot": (2, 3, 4)}, settle_by, 2, house, takers, ("promise", 1))
        self.exact(settle_by(2, house, takers, ("promise", 3)), ((1, 3), (0, 0), 0))
        self.exact(settle_by(2, house, takers, "others"), ((1, 4), (0, 3), 3))

    def test_first_full_piece(self):
        house = ("limits", 4, (((1, 3), 1), ((0, 2), 1)))
        takers = ((0, 0, 4, 1), (0, 0, 4, 2), (1, 0, 4, 3), (1, 0, 4, 4))
        self.refused(Full, {"zone": None, "lot": (0, 2)}, settle_by, 2, house, takers, "handed")
        self.refused(Full, {"zone": None, "lot": (1, 3)}, settle_by, 2, house, takers, ("refuse", 0))
        self.refused(Full, {"zone": None, "lot": (0, 2)}, settle_by, 2, house, takers, ("promise", 3))

    def test_without_a_taken_wish(self):
        for house in (TWO[0], ("web", 1, ((0, 0),)), PAIRS[0]):
            none = (None,) * size_by_words(house)
            self.exact(round_circle(2, house, none), (("table", 0, (0,)), 2, (), ()))
            for way in ("handed", "others"):
                self.exact(settle_by(3, house, none, way), ((), (0, 0, 0), 0))
            self.not_usable("way", settle_by, 2, house, none, ("refuse", 0))

    def test_barred(self):
        barred = ("limits", 2, (((0,), 0),))
        takers = ((0, 0, 4, 4), (1, 0, 4, 1))
        self.not_usable("way", settle_by, 2, barred, takers, ("promise", 0))
        self.exact(settle_by(2, barred, takers, ("refuse", 0)), ((1,), (0, 0), 0))
        self.exact(settle_by(2, barred, takers, ("promise", 1)), ((1,), (0, 0), 0))

    def test_wrong_people_and_houses(self):
        for thing in (True, False, None, 1, 0, -2, "2", (2,), [2], ()):
            self.not_usable("people", round_circle, thing, None, None)
            self.not_usable("people", settle_by, thing, None, None, None)
        for thing in ODD_THINGS + EMPTY + (SEAT, list(SEAT[0]), ("limits", 7, ()), ("limits", 2, (((0, 1), True),))):
            self.not_usable("house", round_circle, 2, thing, None)
            self.not_usable("house", settle_by, 2, thing, None, None)

    def test_wrong_takers(self):
        for thing in ODD_THINGS + (list(TWO[1]), TWO[1][:1], TWO[1] + (None,), ()):
            self.not_usable("takers", round_circle, 2, TWO[0], thing)
            self.not_usable("takers", settle_by, 2, TWO[0], thing, None)
        for thing in WRONG_TAKERS:
            for takers in ((thing, None), (None, thing)):
                self.not_usable("takers", taken_lot, takers)
                self.not_usable("takers", round_circle, 2, TWO[0], takers)
                self.not_usable("takers", settle_by, 2, TWO[0], takers, None)
        # A person is below people, but for taken_lot; each taken wish is told to be settled.
        self.not_usable("takers", round_circle, 2, TWO[0], (None, (2, 0, 4, 3)))
        self.exact(round_circle(3, TWO[0], (None, (2, 0, 4, 3)))[2], (2,))
        self.not_usable("takers", settle_by, 2, TWO[0], (TWO[1][0], (1, 0, 4, None)), None)
        for thing in [thing for thing in ODD_THINGS if thing not in ((None,),)] + [(), (None,) * 7, [None]]:
            self.not_usable("takers", taken_lot, thing)

    def test_wrong_ways(self):
        for thing in ODD_THINGS + ("refuse", "promise", "Handed", ("refuse", 2), ("refuse", True), ("promise", -1), ["refuse", 0],
                                   ("handed", 0), ("others",), ("refuse", 0, 0), ("refuse", None), (0, "refuse"), 10 ** 59):
            self.not_usable("way", settle_by, 2, TWO[0], TWO[1], thing)
            self.not_usable("way", settle_by, 3, TWO[0], TWO[1], thing)
        self.not_usable("way", settle_by, 3, TWO[0], (TWO[1][0], None), ("refuse", 1))
        self.not_usable("way", settle_by, 3, TRIO[0], (TWO[1][0], None, None), ("promise", 1))

    def test_by_name(self):
        self.exact((taken_lot(takers=TWO[1]), round_circle(takers=TWO[1], house=TWO[0], people=2)[1:],
                    settle_by(way="others", takers=TWO[1], house=TWO[0], people=2)),
                   ((0, 1), (2, (0, 1), ((0, 4), (0, 4))), ((0,), (1, 0), 1)))
