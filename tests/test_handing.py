import random

from someoneout.errors import Full
from someoneout.handing import handed_row, handed_tables, loss_tables
from tests.oracles import (board_by_words, choices_by_words, free_lots, handed_by_words, is_full_by_words,
                           own_by_words, pieces_by_words, telling_by_words, within_by_words)
from tests.support import Case, EMPTY, ODD_THINGS, PAIRS, SEAT, TRIO, drawn_circle_telling, drawn_circles

WATCH = (SEAT[0], 3, (0, 1), SEAT[3])
# It stays, by its zones, though its one piece is full.
APART = (SEAT[0], 2, (0, 1), ((0, 4), (4, 9)))


def due_by_words(circle, free, telling, person):
    """What the document tells of handed_tables, at a telling with the choice."""
    due = 0
    for piece in pieces_by_words(circle[0]):
        taker = min(set(range(circle[1])) - {circle[2][wish] for wish in piece})
        whole = within_by_words(free, telling, piece)
        rests = {other: within_by_words(free, telling, set(piece) - set(own_by_words(circle, other)))
                 for other in range(circle[1])}
        granted = {other: max(worth for worth in [whole - rests[other]]) for other in range(circle[1])}
        if person != taker:
            due += rests[person]
        else:
            # What the others lose by each is the rest, less the whole, more their granted wishes' worth,
            # and these worths add up to the whole.
            due += whole - (sum(rests[other] - whole for other in granted if other != taker) + whole)
    return due


class Handing(Case):
    def circles(self, seed, many):
        for ends in ((0, 3, 8), (0, 10 ** 30), (0, 1)):
            for circle in drawn_circles(seed, many, 4, ends):
                if len(board_by_words(circle)[1]) <= 40:
                    yield circle

    def full_of(self, circle):
        return [piece for piece in pieces_by_words(circle[0]) if is_full_by_words(circle, piece)]

    def test_losses(self):
        for circle in self.circles(211, 50):
            counts = board_by_words(circle)[0]
            free = free_lots(circle[0])
            wanted = []
            for person in range(circle[1]):
                others = set(range(len(circle[2]))) - set(own_by_words(circle, person))
                dues = []
                for choice in choices_by_words(counts, person):
                    telling = telling_by_words(circle, choice[:person] + (0,) + choice[person:])
                    dues.append((within_by_words(free, telling, others), 1))
                wanted.append(tuple(dues))
            self.exact(loss_tables(circle), tuple(wanted))

    def test_drawn_circles(self):
        dice = random.Random(212)
        many = [0, 0]
        for circle in self.circles(212, 70):
            full = self.full_of(circle)
            many[len(full) > 0] += 1
            telling = drawn_circle_telling(dice, circle)
            if full:
                self.refused(Full, {"zone": None, "lot": full[0]}, handed_row, circle, telling)
                self.refused(Full, {"zone": None, "lot": full[0]}, handed_tables, circle)
                continue
            for told in (telling, tuple(low for low, _ in circle[3]), tuple(high for _, high in circle[3])):
                self.exact(handed_row(circle, told), handed_by_words(circle, told))
            counts = board_by_words(circle)[0]
            free = free_lots(circle[0])
            wanted = []
            for person in range(circle[1]):
                places = [choice[:person] + (0,) + choice[person:] for choice in choices_by_words(counts, person)]
                wanted.append(tuple((due_by_words(circle, free, telling_by_words(circle, place), person), 1)
                                    for place in places))
            self.exact(handed_tables(circle), tuple(wanted))
        self.assertTrue(min(many) > 40, many)

    def test_known(self):
        self.exact(loss_tables(SEAT), (((0, 1), (4, 1)), ((0, 1), (4, 1))))
        self.exact(handed_row(PAIRS, (3, 1, 2, 4)), (-1, 0, -1, 2))
        self.exact(handed_row(PAIRS, (2, 2, 3, 3)), (-1, 0, 1, 0))
        self.exact(handed_tables(WATCH), (((0, 1), (4, 1)), ((0, 1), (4, 1)), ((0, 1), (4, 1), (4, 1), (0, 1))))
        self.exact(handed_row(WATCH, (1, 3)), (0, 1, -1))
        # Of several takers the first one takes.
        self.exact(handed_row((SEAT[0], 4, (1, 3), SEAT[3]), (2, 1)), (-1, 1, 0, 0))
        self.exact(handed_row((("limits", 4, (((0, 1), 1), ((2, 3), 1))), 3, (0, 1, 2, 0), ((0, 9),) * 4), (5, 3, 2, 7)),
                   (5, -2, -3))
        for house in EMPTY:
            self.exact((loss_tables((house, 2, (), ())), handed_row((house, 3, (), ()), ()),
                        handed_tables((house, 2, (), ()))), ((((0, 1),),) * 2, (0, 0, 0), (((0, 1),),) * 2))

    def test_barred_and_forced(self):
        barred = (("limits", 2, (((0,), 0),)), 2, (0, 1), ((0, 4), (0, 4)))
        self.exact(handed_row(barred, (3, 2)), (0, 0))
        self.exact(handed_tables(barred), (((0, 1), (4, 1)), ((0, 1), (0, 1))))

    def test_full(self):
        self.refused(Full, {"zone": None, "lot": (0, 1)}, handed_row, SEAT, (0, 0))
        self.refused(Full, {"zone": None, "lot": (0, 1)}, handed_row, APART, (0, 4))
        self.refused(Full, {"zone": None, "lot": (0, 1)}, handed_tables, APART)
        self.refused(Full, {"zone": None, "lot": (0, 1, 2)}, handed_tables, TRIO)
        house = ("limits", 4, (((0, 1), 1), ((2, 3), 1)))
        self.refused(Full, {"zone": None, "lot": (2, 3)}, handed_row, (house, 2, (0, 0, 1, 0), ((0, 1),) * 4), (0,) * 4)
        self.exact(loss_tables(APART), (((4, 1), (9, 1)), ((0, 1), (4, 1))))

    def test_wrong_tellings(self):
        odd = tuple(thing for thing in ODD_THINGS if thing not in ((0, 0), (1, 0)))
        for thing in odd + ((5, 0), (0,), (), (0, 0, 0), [0, 0], (True, 0), (0, (1, 2))):
            # What is not as stated comes before what is full.
            self.not_usable("telling", handed_row, SEAT, thing)
            self.not_usable("telling", handed_row, WATCH, thing)

    def test_by_name(self):
        self.exact(handed_row(telling=(1, 3), circle=WATCH), (0, 1, -1))
