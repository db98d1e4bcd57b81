import random
from math import comb

from someoneout.limitruns import limits_number, limits_signed, seats_number, signed_ranks
from tests.oracles import signed_by_words, table_by_words
from tests.support import Case, EMPTY, ODD_THINGS, PAIRS, TIED, TRIO, drawn_houses, random_limits
from tests.test_limitpieces import OTHER_WORDS, nested


def signed_ranks_by_words(ranks):
    totals = [0] * (max(ranks) + 1)
    for number, rank in enumerate(ranks):
        totals[rank] += -1 if bin(number).count("1") % 2 else 1
    return tuple(totals)


def times(one, other):
    totals = [0] * (len(one) + len(other) - 1)
    for i, a in enumerate(one):
        for j, b in enumerate(other):
            totals[i + j] += a * b
    return totals


class LimitRuns(Case):
    def test_drawn_houses(self):
        for house in TIED + tuple(drawn_houses(113, 120)):
            self.exact(signed_ranks(house), signed_ranks_by_words(table_by_words(house)[2]))

    def test_drawn_limits(self):
        dice = random.Random(114)
        for at in range(250):
            house = random_limits(dice, at % 8)
            ranks = table_by_words(house)[2]
            self.exact(limits_signed(house), signed_ranks_by_words(ranks))
            self.exact(signed_ranks(house), limits_signed(house))
            self.exact(limits_number(house), abs(signed_by_words(ranks)))

    def test_edges(self):
        self.exact((limits_signed(EMPTY[0]), limits_number(EMPTY[0])), ((1,), 0))
        for house in EMPTY:
            self.exact(signed_ranks(house), (1,))
        self.exact((limits_signed(("limits", 1, ())), limits_signed(("limits", 1, (((0,), 0),)))), ((1, -1), (0,)))
        self.exact(limits_signed(("limits", 3, (((0, 1, 2), 0), ((0, 1), 1)))), (0,))
        self.exact(limits_signed(("limits", 3, (((0, 1, 2), 10 ** 30),))), (1, -3, 3, -1))
        self.exact(limits_signed(PAIRS[0]), (1, -2, 1))
        self.exact(limits_number(("limits", 2, (((0, 1), 1), ((0,), 10 ** 30)))), 1)

    def test_many_limits(self):
        # Seats only: the rank of a lot is its length up to the seats.
        for size, seats in ((40, 20), (40, 1), (40, 39), (39, 7)):
            house = ("limits", size, ((tuple(range(size)), seats),))
            counts = [(-1) ** many * comb(size, many) for many in range(size + 1)]
            self.exact(limits_signed(house), tuple(counts[:seats] + [sum(counts[seats:])]))
            self.exact(limits_number(house), comb(size - 2, seats - 1))

    def test_many_limits_side_by_side(self):
        house = ("limits", 40, tuple(((2 * at, 2 * at + 1), 1) for at in range(20))
                 + tuple(((wish,), 10 ** 30) for wish in range(20)))
        wanted = [1]
        for _ in range(20):
            wanted = times(wanted, [1, -1])
        self.exact(limits_signed(house), tuple(wanted))
        self.exact(limits_number(house), 0)
        whole = ("limits", 40, house[2][:20] + ((tuple(range(40)), 10),))
        self.exact(limits_signed(whole), tuple(wanted[:10] + [sum(wanted[10:])]))
        # Twins change no number: twenty wishes with ten seats.
        self.exact(limits_number(whole), comb(18, 9))

    def test_many_limits_within_one_another(self):
        # Each wish is put to what is inside, then the cap: told by ranks, lot by lot of a chain.
        for caps in (list(range(40, 0, -1)), [20] * 40, [at // 2 + 1 for at in range(40, 0, -1)], [10 ** 30] * 40,
                     [30] * 5 + [10 ** 30] * 10 + [5] * 10 + [0] * 3 + [7] * 12):
            house = nested(40, caps)
            sums = {0: 1}
            for cap in reversed(caps):
                more = {}
                for rank, total in sums.items():
                    for next_rank, sign in ((min(rank, cap), 1), (min(rank + 1, cap), -1)):
                        more[next_rank] = more.get(next_rank, 0) + sign * total
                sums = more
            self.exact(limits_signed(house), tuple(sums[rank] for rank in range(max(sums) + 1)))
            self.exact(limits_number(house), abs(sum(rank * total for rank, total in sums.items())))

    def test_seats(self):
        for size in range(9):
            for seats in range(10):
                house = ("limits", size, ((tuple(range(size)), seats),) if size else ())
                self.exact(seats_number(size, seats), abs(signed_by_words(table_by_words(house)[2])))
        for size in (40, 199, 200):
            for seats in (1, 2, size // 2, size - 1):
                self.exact(seats_number(size, seats), comb(size - 2, seats - 1))
            for seats in (0, size, size + 1, 10 ** 30):
                self.exact(seats_number(size, seats), 0)
        self.exact((seats_number(1, 0), seats_number(1, 10 ** 30), seats_number(0, 0), seats_number(0, 5)), (0, 1, 0, 0))

    def test_wrong_parameters(self):
        for house in OTHER_WORDS:
            self.not_usable("house", limits_signed, house)
            self.not_usable("house", limits_number, house)
        for thing in ODD_THINGS:
            if thing != 10 ** 59:
                self.not_usable("seats", seats_number, 5, thing)

    def test_by_name(self):
        self.exact((signed_ranks(house=TRIO[0]), limits_signed(house=TRIO[0])), ((1, -3, 2), (1, -3, 2)))
        self.exact((limits_number(house=TRIO[0]), seats_number(seats=2, size=4)), (1, 2))
