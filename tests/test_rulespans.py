import random

from someoneout.holds import hold_paper
from someoneout.rulespans import never_short, nobody_worse, till_ends, worst_gains
from tests.oracles import (board_by_words, dues_by_words, places_by_words, quotient_by, telling_by_words,
                           tills_by_words)
from tests.support import Case, EMPTY, SEAT, drawn_circles, drawn_tables, wrong_tables

TABLES = (((1, 1), (3, 1)), ((1, 1), (3, 1)))
SECONDS = (((0, 1), (4, 1)), ((0, 1), (4, 1)))


class RuleSpans(Case):
    def judged(self, circle, tables):
        board = board_by_words(circle)
        places = places_by_words(board[0])
        tills = tills_by_words(board, tables)
        told = [telling_by_words(circle, place) for place in places]
        wanted = ()
        for till in (min(tills), max(tills)):
            first = [at for at, other in enumerate(tills) if other == till][0]
            wanted += (quotient_by(till), told[first])
        self.exact(till_ends(circle, tables), wanted)
        gains = [[worth - due for due in dues_by_words(board, tables, place)] for place, worth in zip(places, board[1])]
        least = tuple(min(row[person] for row in gains) for person in range(circle[1]))
        self.exact(worst_gains(circle, tables), tuple(quotient_by(gain) for gain in least))
        self.exact(never_short(circle, tables), min(tills) >= 0)
        self.exact(nobody_worse(circle, tables), min(least) >= 0)
        return min(tills) >= 0, min(least) >= 0

    def test_drawn_circles(self):
        dice = random.Random(210)
        found = set()
        for ends in ((0, 3, 8), (0, 10 ** 30), (0, 7)):
            for circle in drawn_circles(210, 60, 4, ends):
                board = board_by_words(circle)
                if len(board[1]) > 40:
                    continue
                self.judged(circle, drawn_tables(dice, board[0]))
                high, low = max(board[1]), min(board[1])
                parts = [len(board[1]) // count for count in board[0]]
                for due in (high, high + 1, low, low - 1):
                    found.add(self.judged(circle, tuple(((due, 1),) * many for many in parts)))
                uneven = [high + 1] + [low - 3 * high - 9] * (circle[1] - 1)
                found.add(self.judged(circle, tuple(((due, 1),) * many for due, many in zip(uneven, parts))))
                if len(board[1]) <= 16:
                    found.add(self.judged(circle, hold_paper(circle)[0]))
        self.assertEqual(len(found), 4)

    def test_known(self):
        self.exact(till_ends(SEAT, TABLES), ((0, 1), (0, 4), (2, 1), (0, 0)))
        self.exact(worst_gains(SEAT, TABLES), ((-1, 1), (-1, 1)))
        self.exact((never_short(SEAT, TABLES), nobody_worse(SEAT, TABLES)), (True, False))
        self.exact((never_short(SEAT, SECONDS), nobody_worse(SEAT, SECONDS)), (True, True))
        less = (((0, 1), (3, 1)), ((0, 1), (4, 1)))
        self.exact((never_short(SEAT, less), nobody_worse(SEAT, less)), (False, True))
        self.exact(till_ends(SEAT, less), ((-1, 1), (0, 4), (3, 1), (4, 4)))
        for house in EMPTY:
            circle = (house, 2, (), ())
            tables = (((1, 2),), ((-3, 1),))
            self.exact((till_ends(circle, tables), worst_gains(circle, tables)),
                       (((-5, 2), (), (-5, 2), ()), ((-1, 2), (3, 1))))

    def test_one_end_for_all(self):
        circle = (SEAT[0], 2, (0, 1), ((5, 5), (5, 5)))
        self.exact(till_ends(circle, (((5, 1),), ((1, 2),))), ((1, 2), (5, 5), (1, 2), (5, 5)))
        self.exact(worst_gains(circle, (((5, 1),), ((1, 2),))), ((0, 1), (9, 2)))

    def test_wrong_tables(self):
        for function in (till_ends, worst_gains, never_short, nobody_worse):
            for thing in wrong_tables((2, 2)):
                self.not_usable("tables", function, SEAT, thing)

    def test_by_name(self):
        self.exact(till_ends(tables=TABLES, circle=SEAT), ((0, 1), (0, 4), (2, 1), (0, 0)))
        self.exact((worst_gains(tables=TABLES, circle=SEAT), never_short(tables=TABLES, circle=SEAT),
                    nobody_worse(tables=TABLES, circle=SEAT)), (((-1, 1), (-1, 1)), True, False))
