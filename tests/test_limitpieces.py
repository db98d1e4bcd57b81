import random

from someoneout.limitpieces import binding_limits, limit_pieces, limits_stay
from someoneout.pieces import pieces_of
from tests.oracles import pieces_by_ranks, table_by_words
from tests.support import (BESIDE, Case, EMPTY, ODD_THINGS, ROWS, SLOTS, TABLE, WEB, random_limits, wrong_persons)

OTHER_WORDS = (SLOTS, WEB, ROWS, TABLE, BESIDE, ("table", 0, (0,)), ("slots", 0, ()), ("rows", 2, ()))


def binding_by_words(house):
    """Straight from the words: the rank of a lot by rows is that of the house of these rows alone."""
    size, rows = house[1:]
    barred = {wish for lot, cap in rows if cap == 0 for wish in lot}
    binding = set()
    for lot, cap in rows:
        left = tuple(wish for wish in lot if wish not in barred)
        inner = tuple((other, most) for other, most in rows if set(other) < set(lot))
        rank = table_by_words(("limits", size, inner))[2][sum(2 ** wish for wish in left)]
        if 1 <= cap < rank:
            binding.add(left)
    return tuple(sorted(lot for lot in binding if not any(set(lot) < set(other) for other in binding)))


def nested(size, caps):
    """Rows within rows: the first so many wishes each, from all down to the first one."""
    return ("limits", size, tuple((tuple(range(size - at)), cap) for at, cap in enumerate(caps)))


class LimitPieces(Case):
    def test_drawn_houses(self):
        dice = random.Random(108)
        for at in range(250):
            house = random_limits(dice, at % 8)
            self.exact(binding_limits(house), binding_by_words(house))
            pieces = pieces_by_ranks(table_by_words(house)[2]) if house[1] < 6 else pieces_of(house)
            self.exact(limit_pieces(house), pieces)
            people = dice.randrange(2, 4)
            owners = tuple(dice.randrange(people) for _ in range(house[1]))
            stays = all({owners[wish] for wish in piece} != set(range(people)) for piece in pieces)
            self.exact(limits_stay(house, people, owners), stays)

    def test_caps_that_do_not_bind(self):
        self.exact(binding_limits(("limits", 3, (((0, 1, 2), 3), ((0, 1), 2), ((2,), 1)))), ())
        self.exact(binding_limits(("limits", 3, (((0, 1, 2), 10 ** 30), ((0, 1), 1)))), ((0, 1),))
        self.exact(binding_limits(("limits", 4, (((0, 1, 2, 3), 2), ((0, 1), 1), ((2, 3), 1)))), ((0, 1), (2, 3)))
        self.exact(binding_limits(("limits", 4, (((2, 3), 1), ((0, 1), 1)))), ((0, 1), (2, 3)))
        self.exact(binding_limits(("limits", 4, (((0, 1, 2, 3), 1), ((2, 3), 1)))), ((0, 1, 2, 3),))

    def test_barred_wishes(self):
        # Both lots are (0, 1) without the barred wish; the inner one counts for the outer one only as told.
        self.exact(binding_limits(("limits", 3, (((0, 1, 2), 1), ((0, 1), 1), ((2,), 0)))), ((0, 1),))
        self.exact(binding_limits(("limits", 3, (((0, 1, 2), 1), ((2,), 0)))), ((0, 1),))
        self.exact(binding_limits(("limits", 3, (((0, 1, 2), 1), ((1, 2), 0)))), ())
        self.exact(limit_pieces(("limits", 3, (((0, 1, 2), 0), ((0, 1), 1)))), ((0,), (1,), (2,)))
        self.exact(binding_limits(("limits", 4, (((0, 1, 2, 3), 0),))), ())
        self.exact(limit_pieces(("limits", 4, (((0, 1, 2, 3), 1), ((1,), 0)))), ((0, 2, 3), (1,)))

    def test_without_wishes(self):
        house = EMPTY[0]
        self.exact((binding_limits(house), limit_pieces(house), limits_stay(house, 2, ())), ((), (), True))

    def test_many_limits_within_one_another(self):
        house = nested(40, range(40, 0, -1))
        self.exact((binding_limits(house), limit_pieces(house)), ((), tuple((wish,) for wish in range(40))))
        house = nested(40, [20] * 40)
        self.exact((binding_limits(house), limit_pieces(house)), ((tuple(range(40)),),) * 2)
        house = nested(40, [30] * 5 + [10 ** 30] * 10 + [5] * 10 + [0] * 3 + [7] * 12)
        self.exact(binding_limits(house), (tuple(range(15, 25)),))
        self.exact(len(limit_pieces(house)), 31)
        house = nested(40, [10 ** 30] * 38 + [1, 1])
        self.exact(limit_pieces(house), ((0, 1),) + tuple((wish,) for wish in range(2, 40)))

    def test_many_limits_side_by_side(self):
        pairs = tuple(((2 * at, 2 * at + 1), 1) for at in range(20))
        more = tuple(((wish,), 10 ** 30) for wish in range(20))
        house = ("limits", 40, pairs[::-1] + more)
        lots = tuple(lot for lot, _ in pairs)
        self.exact((binding_limits(house), limit_pieces(house)), (lots, lots))
        self.exact(limits_stay(house, 2, tuple(wish // 2 % 2 for wish in range(40))), True)
        self.exact(limits_stay(house, 2, tuple(wish % 2 for wish in range(40))), False)
        self.exact(limits_stay(house, 40, tuple(range(40))), True)
        house = ("limits", 40, tuple(((wish,), wish % 2) for wish in range(40)))
        self.exact((binding_limits(house), len(limit_pieces(house))), ((), 40))
        self.exact(limits_stay(house, 40, (39,) * 40), True)
        one = ("limits", 40, ((tuple(range(40)), 39),))
        self.exact(limits_stay(one, 40, tuple(range(40))), False)
        self.exact(limits_stay(one, 40, (38,) + tuple(range(39))), True)

    def test_wrong_parameters(self):
        for house in OTHER_WORDS:
            self.not_usable("house", binding_limits, house)
            self.not_usable("house", limit_pieces, house)
            self.not_usable("house", limits_stay, house, None, None)
        house = ("limits", 2, (((0, 1), 1),))
        for thing in ODD_THINGS + (0, 1, -2):
            if thing != 10 ** 59:
                self.not_usable("people", limits_stay, house, thing, None)
        for thing in ODD_THINGS + ((), (0,), (0, 1, 1), [0, 1], (0, True), (False, 1)):
            if thing not in ((0, 0), (1, 0)):
                self.not_usable("owners", limits_stay, house, 2, thing)
        for person in wrong_persons(2):
            self.not_usable("owners", limits_stay, house, 2, (person, 0))
            self.not_usable("owners", limits_stay, house, 2, (0, person))

    def test_by_name(self):
        house = ("limits", 2, (((0, 1), 1),))
        self.exact(limits_stay(owners=(0, 1), people=3, house=house), True)
        self.exact((binding_limits(house=house), limit_pieces(house=house)), (((0, 1),), ((0, 1),)))
