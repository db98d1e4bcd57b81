import random
from fractions import Fraction

from someoneout.endboards import board_of
from someoneout.errors import InvalidPaper
from someoneout.quotients import less
from someoneout.spanpapers import least_span, lets_span, span_paper
from someoneout.tablesums import flat_tables
from tests.oracles import (choice_sums_by_words, fraction_of, mixed_by_words, places_by_words, quotient_by, span_by_words)
from tests.support import (Case, ODD_THINGS, SEAT, TRIO, WRONG_QUOTIENTS, drawn_boards, drawn_circles, drawn_tables,
                           shapes_of, wrong_tables)
from tests.test_tables import DUES

FIRST, SECOND = ((0, 1), (1, 2), (1, 2), (0, 1)), ((1, 2), (0, 1), (0, 1), (1, 2))


def mean_by_words(board, shares):
    return sum(worth * share for worth, share in zip(board[1], shares))


class Programs(Case):
    def judged(self, board, paper):
        """The span that the paper tells, by adding up alone."""
        self.assertIs(paper.__class__, tuple)
        tables, first, second = paper
        rows = []
        for shares in (first, second):
            self.assertEqual(len(shares), len(board[1]))
            row = [fraction_of(share) for share in shares]
            self.assertEqual([quotient_by(share) for share in row], list(shares))
            self.assertTrue(min(row) >= 0 and sum(row) == 1)
            rows.append(row)
        for person in range(len(board[0])):
            self.assertEqual(choice_sums_by_words(board, person, rows[0]), choice_sums_by_words(board, person, rows[1]))
        span = span_by_words(board, tables)
        way = mean_by_words(board, rows[0]) - mean_by_words(board, rows[1])
        self.assertEqual(span, (len(board[0]) - 1) * way)
        return quotient_by(span)

    def solved(self, board):
        paper = span_paper(board)
        span = self.judged(board, paper)
        self.exact(lets_span(board, paper), span)
        self.exact(least_span(board), span)
        return span

    def test_wide_boards(self):
        for board in drawn_boards(161, 700):
            self.solved(board)

    def test_all_shapes(self):
        spans = [self.solved(board) for board in drawn_boards(162, 1426, shapes_of(24))]
        self.assertTrue(400 < spans.count((0, 1)) < 1400, spans.count((0, 1)))

    def test_boards_of_circles(self):
        for circle in drawn_circles(163, 150, 4, (0, 2, 5)):
            board = board_of(circle)
            if len(board[1]) <= 24:
                self.solved(board)

    def test_edges(self):
        self.exact((self.solved(((1, 1), (-7,))), self.solved(((1, 24), tuple(range(24))))), ((0, 1), (0, 1)))
        self.exact((self.solved(((2, 1, 3), (1, 5, -9, 0, 2, 2))), self.solved(board_of(TRIO))), ((0, 1), (2, 1)))
        self.exact(self.solved(((2, 2), (0, 10 ** 40, 10 ** 40, -10 ** 40))), (3 * 10 ** 40 // 2, 1))
        self.exact(self.solved(((2, 2, 2), (0, 0, 0, 0, 0, 0, 0, 1))), (1, 2))

    def test_other_true_papers(self):
        dice = random.Random(164)
        for board in drawn_boards(164, 60):
            tables, first, second = span_paper(board)
            span = lets_span(board, (tables, first, second))
            # A due more here and less there, for one person against another: the tills stay.
            shifted = tuple(tuple(quotient_by(fraction_of(due) + shift) for due in table) for table, shift
                            in zip(tables, (Fraction(7, 3), Fraction(-7, 3)) + (0,) * 3))
            self.exact(lets_span(board, (shifted, first, second)), span)
            # The same lots of shares mixed into both.
            for _ in range(2):
                more = [Fraction(dice.randrange(5), 1) for _ in board[1]]
                more = [share / sum(more) for share in more] if any(more) else [fraction_of(share) for share in first]
                part = Fraction(dice.randrange(1, 4), 4)
                mixed = [tuple(quotient_by(part * fraction_of(share) + (1 - part) * extra)
                               for share, extra in zip(shares, more)) for shares in (first, second)]
                if span == (0, 1):
                    self.exact(lets_span(board, (tables, mixed[0], mixed[1])), span)
                else:
                    self.wrong_paper("span", -1, lets_span, board, (tables, mixed[0], mixed[1]))

    def test_even_boards(self):
        dice = random.Random(165)
        for board in drawn_boards(165, 80):
            places = places_by_words(board[0])
            if not any(mixed_by_words(board, places[0], place) for place in places):
                shares = [Fraction(dice.randrange(1, 9)) for _ in places]
                shares = tuple(quotient_by(share / sum(shares)) for share in shares)
                self.exact(lets_span(board, (flat_tables(board), shares, shares)), (0, 1))

    def test_no_tables_have_less(self):
        dice = random.Random(166)
        for board in drawn_boards(166, 60):
            least = least_span(board)
            for _ in range(3):
                self.assertFalse(less(quotient_by(span_by_words(board, drawn_tables(dice, board[0]))), least))


class Refused(Case):
    BOARD = board_of(SEAT)

    def wrong(self, word, at, thing):
        self.wrong_paper(word, at, lets_span, self.BOARD, thing)

    def test_true(self):
        self.exact(lets_span(self.BOARD, (DUES, FIRST, SECOND)), (2, 1))

    def test_shape(self):
        for thing in ODD_THINGS + ([DUES, FIRST, SECOND], (DUES, FIRST), (DUES, FIRST, SECOND, SECOND), ()):
            self.wrong("shape", -1, thing)

    def test_tables(self):
        for thing in wrong_tables((2, 2)):
            self.wrong("tables", -1, (thing, None, None))

    def test_shares(self):
        shares = ODD_THINGS + ((), list(FIRST), FIRST[:3], FIRST + ((0, 1),), ((0, 1),) * 4, ((1, 1),) * 4,
                               ((-1, 2), (1, 2), (1, 1), (0, 1)), ((0, 1), (1, 2), (1, 2), (1, 2)))
        for thing in shares + tuple(FIRST[:3] + (thing,) for thing in WRONG_QUOTIENTS):
            self.wrong("shares", 1, (DUES, thing, None))
            self.wrong("shares", 2, (DUES, FIRST, thing))

    def test_agree(self):
        for other, person in ((((1, 1), (0, 1), (0, 1), (0, 1)), 0), (((1, 2), (0, 1), (1, 2), (0, 1)), 0),
                              (((1, 2), (1, 2), (0, 1), (0, 1)), 1), (((0, 1), (0, 1), (1, 2), (1, 2)), 1)):
            self.wrong("agree", person, (DUES, FIRST, other))
            self.wrong("agree", person, (DUES, other, FIRST))

    def test_agree_of_three(self):
        board = board_of(TRIO)
        tables, first, second = span_paper(board)
        quarter, none = (1, 4), (0, 1)
        # Moved by the row of the last person, shares still agree on what the last one's others tell, not on the rest.
        for person, there in enumerate(((1, 0, 0), (0, 1, 0), (0, 0, 1))):
            one = tuple((1, 1) if place == (0, 0, 0) else none for place in places_by_words(board[0]))
            other = tuple((1, 1) if place == there else none for place in places_by_words(board[0]))
            self.wrong_paper("agree", 1 if person == 0 else 0, lets_span, board, (tables, one, other))
        even = tuple(quarter if sum(place) % 2 == 0 else none for place in places_by_words(board[0]))
        odd = tuple(quarter if sum(place) % 2 else none for place in places_by_words(board[0]))
        found = []
        for pair in ((even, odd), (odd, even)):
            try:
                found.append(lets_span(board, (tables,) + pair))
            except InvalidPaper as error:
                self.exact(vars(error), {"word": "span", "at": -1})
        self.exact(found, [(2, 1)])

    def test_span(self):
        self.wrong("span", -1, (DUES, SECOND, FIRST))
        self.wrong("span", -1, (DUES, FIRST, FIRST))
        self.wrong("span", -1, ((((1, 1), (3, 1)), ((1, 1), (4, 1))), FIRST, SECOND))
        self.wrong("span", -1, ((((1, 1), (3, 1)), ((0, 1), (3, 1))), FIRST, SECOND))

    def test_by_name(self):
        self.exact(lets_span(thing=(DUES, FIRST, SECOND), board=self.BOARD), (2, 1))
        self.exact((least_span(board=self.BOARD), len(span_paper(board=self.BOARD))), ((2, 1), 3))
