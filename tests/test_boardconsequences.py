"""What follows for boards, circles' spans, mixtures and rules: [62], [72], and the guarantees (G2), (G5), (G6)."""

import random
from fractions import Fraction

from someoneout.boards import places_of
from someoneout.circlechanges import beside_circles
from someoneout.circlespans import circle_span, half_tables, piece_spans
from someoneout.endboards import board_of, telling_at
from someoneout.errors import Uneven
from someoneout.grants import best_worth, granted
from someoneout.holds import least_hold
from someoneout.leavings import full_pieces, stays
from someoneout.mixed import mixed_at, uneven_place
from someoneout.mixtures import mean_over
from someoneout.others import loss_row, own_worth, without_person
from someoneout.quotients import less, plus
from someoneout.rules import dues_at, gains_at, payments_at, rule_till
from someoneout.spanpapers import least_span
from someoneout.tables import till_row, till_span
from someoneout.tablesums import flat_tables, tables_plus, tables_times
from someoneout.walks import best_walk, lets_walk
from tests.oracles import choices_by_words, fraction_of, quotient_by, telling_by_words, worth_by_words
from tests.support import Case, drawn_boards, drawn_circle_telling, drawn_circles, drawn_tables, shapes_of
from tests.test_mixtures import drawn_tellings_of


def small_circles(seed, many, most, ends=((0, 1), (0, 3, 8), (0, 10 ** 30))):
    """Circles whose boards have up to most places."""
    for at, some in enumerate(ends):
        for circle in drawn_circles(seed + at, many, 4, some):
            if len(board_of(circle)[1]) <= most:
                yield circle


class Boards(Case):
    def test_here_and_there(self):
        dice = random.Random(190)
        for board in drawn_boards(190, 150):
            places = places_of(board)
            sign = -1 if len(board[0]) % 2 else 1
            for _ in range(5):
                here, there = dice.choice(places), dice.choice(places)
                self.exact(mixed_at(board, there, here), sign * mixed_at(board, here, there))

    def test_even_boards(self):
        even = 0
        for board in list(drawn_boards(191, 150)) + list(drawn_boards(192, 150, shapes_of(24)[::9])):
            places = places_of(board)
            differences = {abs(mixed_at(board, here, there)) for here in places for there in places}
            span = least_span(board)
            try:
                flat_tables(board)
                flat = True
            except Uneven as error:
                flat = False
                self.exact(error.place, uneven_place(board))
            self.assertEqual({uneven_place(board) is None, differences == {0}, flat, span == (0, 1)}, {flat})
            rest = len(board[0]) - 1
            self.assertGreaterEqual(fraction_of(span), Fraction(max(differences) * rest, 2 ** rest))
            even += flat
        self.assertTrue(60 < even < 280, even)

    def test_spans_and_tables(self):
        dice = random.Random(193)
        for board in drawn_boards(193, 60):
            one, other = drawn_tables(dice, board[0]), drawn_tables(dice, board[0])
            least = least_span(board)
            for tables in (one, other, tables_times(board, tables_plus(board, one, other), (1, 2))):
                self.assertFalse(less(till_span(board, tables), least))

    def test_walks(self):
        for board in drawn_boards(194, 100, ((2, 2), (3, 5), (4, 6), (6, 4), (12, 2))):
            self.exact(lets_walk(board, best_walk(board)), least_span(board))


class Spans(Case):
    def test_holds(self):
        for circle in small_circles(195, 100, 24):
            span = circle_span(circle)
            self.assertFalse(less(least_hold(circle), span))
            self.exact(span, least_span(board_of(circle)))
            if circle[1] == 2:
                self.exact(till_span(board_of(circle), half_tables(circle)), span)

    def test_nought_exactly_if_it_stays(self):
        for circle in small_circles(196, 150, 256):
            boards = circle[1] == 2 or len(board_of(circle)[1]) <= 24
            if not boards and any(piece for piece in full_pieces(circle)):
                continue
            span = circle_span(circle)
            self.exact(span == (0, 1), stays(circle))
            rest = circle[1] - 1
            if span != (0, 1):
                self.assertGreaterEqual(fraction_of(span), Fraction(rest, 2 ** rest))

    def test_spans_add_up(self):
        circles = [circle for circle in small_circles(197, 60, 8) if circle[1] == 2 and circle[2]]
        for one, other in zip(circles, circles[1:]):
            both = beside_circles(one, other)
            ends = {end for stretch in both[3] for end in stretch}
            self.exact(circle_span(both), plus(circle_span(one), circle_span(other)))
            self.exact(circle_span(both), quotient_by(sum((fraction_of(span) for _, span in piece_spans(both)),
                                                          Fraction(0))))
            if len(ends) == 2 and len(board_of(both)[1]) <= 24:
                self.exact(least_span(board_of(both)), circle_span(both))


class Rules(Case):
    def test_means_of_worths_and_tills(self):
        dice = random.Random(198)
        for circle in small_circles(198, 40, 40):
            board = board_of(circle)
            tables = drawn_tables(dice, board[0])
            worths = tuple((worth, 1) for worth in board[1])
            tills = till_row(board, tables)
            ends = [fraction_of(till) for till in tills]
            gains = [gains_at(circle, tables, telling_at(circle, place)) for place in places_of(board)]
            worst = [min(fraction_of(row[person]) for row in gains) for person in range(circle[1])]
            for telling in drawn_tellings_of(dice, circle, 2):
                best = best_worth(circle[0], telling)
                self.exact(mean_over(circle, worths, telling), (best, 1))
                till = rule_till(circle, tables, telling)
                self.exact(till, mean_over(circle, tills, telling))
                dues = sum(fraction_of(due) for due in dues_at(circle, tables, telling))
                self.exact(till, quotient_by(dues - (circle[1] - 1) * best))
                self.assertTrue(min(ends) <= fraction_of(till) <= max(ends))
                for gain, least in zip(gains_at(circle, tables, telling), worst):
                    self.assertGreaterEqual(fraction_of(gain), least)

    def test_truth_is_best(self):
        dice = random.Random(199)
        for circle in small_circles(199, 30, 40):
            tables = drawn_tables(dice, board_of(circle)[0])
            for _ in range(4):
                truth, other = drawn_circle_telling(dice, circle), drawn_circle_telling(dice, circle)
                gains = gains_at(circle, tables, truth)
                for person in range(circle[1]):
                    told = tuple(other[wish] if circle[2][wish] == person else truth[wish] for wish in range(len(truth)))
                    own = [wish for wish in granted(circle[0], told) if circle[2][wish] == person]
                    paid = payments_at(circle, tables, told)[person]
                    self.assertLessEqual(worth_by_words(truth, own) - fraction_of(paid), fraction_of(gains[person]))

    def test_what_the_others_lose(self):
        dice = random.Random(200)
        for circle in small_circles(200, 30, 40):
            counts = board_of(circle)[0]
            tables = []
            for person in range(circle[1]):
                places = [choice[:person] + (0,) + choice[person:] for choice in choices_by_words(counts, person)]
                worths = [without_person(circle, telling_by_words(circle, place), person) for place in places]
                tables.append(tuple((worth, 1) for worth in worths))
            for telling in drawn_tellings_of(dice, circle, 2):
                payments = payments_at(circle, tuple(tables), telling)
                self.exact(payments, tuple((loss, 1) for loss in loss_row(circle, telling)))
                self.assertFalse(less(rule_till(circle, tuple(tables), telling), (0, 1)))
                for person, gain in enumerate(gains_at(circle, tuple(tables), telling)):
                    self.assertGreaterEqual(gain[0], 0)
                    self.exact(gain[0], own_worth(circle, telling, person) - payments[person][0])
