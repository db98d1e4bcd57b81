from fractions import Fraction

from someoneout.circlechanges import kept_circle
from someoneout.circlespans import circle_span, corner_excess, half_tables, piece_span, piece_spans, single_of
from someoneout.endboards import board_of
from someoneout.spanpapers import least_span
from someoneout.tables import till_span
from tests.oracles import (best_by_words, fraction_of, free_by_ranks, free_lots, is_full_by_words,
                           kept_ranks, pieces_by_ranks, quotient_by, rings_by_free, rows_by_words, signed_by_words,
                           table_by_words)
from tests.support import Case, EMPTY, PAIRS, SEAT, TRIO, drawn_circles, wrong_lots

COURT = (("limits", 4, (((0, 1, 2, 3), 2),)), 2, (0, 0, 1, 1), ((0, 1),) * 4)
WATCH = (SEAT[0], 3, (0, 1), SEAT[3])


def stretch_by_words(circle, piece):
    """The common stretch of a single piece, or None."""
    ranks = table_by_words(circle[0])[2]
    rings = rings_by_free(len(circle[2]), free_by_ranks(ranks))
    twins = all(pair in rings for pair in ((one, other) for one in piece for other in piece
                                           if one < other and circle[2][one] == circle[2][other]))
    if not is_full_by_words(circle, piece) or not twins:
        return None
    own = [[circle[3][wish] for wish in piece if circle[2][wish] == person] for person in range(circle[1])]
    return (max(max(low for low, _ in row) for row in own), min(max(high for _, high in row) for row in own))


def excess_by_words(circle):
    free = free_lots(circle[0])
    lows = [low for low, _ in circle[3]]
    highs = [high for _, high in circle[3]]
    one = [low if owner == 0 else high for owner, (low, high) in zip(circle[2], circle[3])]
    other = [high if owner == 0 else low for owner, (low, high) in zip(circle[2], circle[3])]
    return best_by_words(free, one) + best_by_words(free, other) - best_by_words(free, lows) - best_by_words(free, highs)


def half_by_words(circle, person):
    """The dues of the person: half of the best worths with the person's lows and with their highs."""
    free = free_lots(circle[0])
    dues = []
    for row in rows_by_words(circle, 1 - person):
        total = 0
        for side in (0, 1):
            told = iter(row)
            total += best_by_words(free, [stretch[side] if owner == person else next(told)
                                          for owner, stretch in zip(circle[2], circle[3])])
        dues.append(quotient_by(Fraction(total, 2)))
    return tuple(dues)


def places_in(circle):
    many = 1
    for person in range(circle[1]):
        many *= len(rows_by_words(circle, person))
    return many


class CircleSpans(Case):
    def span_by_words(self, circle, piece):
        """What the piece adds, or None if nothing tells it here."""
        if not is_full_by_words(circle, piece):
            return Fraction(0)
        stretch = stretch_by_words(circle, piece)
        rest = circle[1] - 1
        if stretch is not None:
            number = abs(signed_by_words(kept_ranks(table_by_words(circle[0])[2], piece)))
            return Fraction(number * max(0, stretch[1] - stretch[0]) * rest, 2 ** rest)
        kept = kept_circle(circle, piece)
        if circle[1] == 2:
            return Fraction(excess_by_words(kept), 2)
        return fraction_of(least_span(board_of(kept))) if places_in(kept) <= 24 else None

    def test_drawn_circles(self):
        single = full = 0
        for circle in list(drawn_circles(174, 250)) + list(drawn_circles(175, 250, 5, (0, 1))):
            spans = []
            for piece in pieces_by_ranks(table_by_words(circle[0])[2]):
                stretch = stretch_by_words(circle, piece)
                self.exact(single_of(circle, piece), stretch)
                span = self.span_by_words(circle, piece)
                single += stretch is not None
                if span is not None:
                    self.exact(piece_span(circle, piece), quotient_by(span))
                if is_full_by_words(circle, piece):
                    full += 1
                    spans.append((piece, span))
            if all(span is not None for _, span in spans):
                self.exact(piece_spans(circle), tuple((piece, quotient_by(span)) for piece, span in spans))
                self.exact(circle_span(circle), quotient_by(sum((span for _, span in spans), Fraction(0))))
        self.assertTrue(single > 60 and full > single + 40, (single, full))

    def test_the_least_span_of_the_board(self):
        # (G5), (G6): the span of the whole board, by programs, is the sum over the full pieces.
        many = 0
        for circle in list(drawn_circles(176, 300, 5, (0, 3))) + list(drawn_circles(177, 300, 5, (0, 2, 7))):
            if places_in(circle) <= 24:
                self.exact(circle_span(circle), least_span(board_of(circle)))
                many += circle_span(circle) != (0, 1)
        self.assertGreater(many, 60)

    def test_two_persons(self):
        for circle in drawn_circles(178, 200, 5, (0, 1, 4)):
            if circle[1] != 2:
                self.not_usable("circle", corner_excess, circle)
                self.not_usable("circle", half_tables, circle)
                continue
            excess = excess_by_words(circle)
            self.exact(corner_excess(circle), excess)
            self.exact(half_tables(circle), (half_by_words(circle, 0), half_by_words(circle, 1)))
            self.exact(circle_span(circle), quotient_by(Fraction(excess, 2)))
            self.exact(till_span(board_of(circle), half_tables(circle)), circle_span(circle))

    def test_known_circles(self):
        self.exact((piece_spans(COURT), single_of(COURT, (0, 1, 2, 3)), circle_span(TRIO)),
                   ((((0, 1, 2, 3), (1, 1)),), None, (2, 1)))
        self.exact((circle_span(SEAT), single_of(SEAT, (0, 1)), corner_excess(SEAT)), ((2, 1), (0, 4), 4))
        self.exact((circle_span(PAIRS), piece_spans(PAIRS), piece_span(PAIRS, (0, 1))), ((0, 1), (), (0, 1)))
        self.exact((circle_span(WATCH), single_of(WATCH, (0, 1))), ((0, 1), None))
        self.exact(half_tables(SEAT), (((2, 1), (4, 1)), ((2, 1), (4, 1))))

    def test_stretches_with_nothing_in_common(self):
        apart = (SEAT[0], 2, (0, 1), ((0, 3), (5, 9)))
        self.exact((single_of(apart, (0, 1)), piece_span(apart, (0, 1)), piece_spans(apart), circle_span(apart)),
                   ((5, 3), (0, 1), (((0, 1), (0, 1)),), (0, 1)))
        touching = (SEAT[0], 2, (0, 1), ((0, 3), (3, 9)))
        self.exact((single_of(touching, (0, 1)), circle_span(touching)), ((3, 3), (0, 1)))
        level = (SEAT[0], 2, (0, 1), ((3, 3), (0, 9)))
        self.exact((single_of(level, (0, 1)), circle_span(level)), ((3, 3), (0, 1)))

    def test_twins_of_one_person(self):
        # The greatest low and the greatest high of a person's twins count.
        seat = (("limits", 4, (((0, 1, 2, 3), 1),)), 2, (0, 0, 1, 1), ((0, 5), (2, 3), (1, 4), (0, 9)))
        self.exact((single_of(seat, (0, 1, 2, 3)), circle_span(seat)), ((2, 5), (3, 2)))
        self.exact(least_span(board_of(seat)), (3, 2))
        big = 10 ** 30
        wide = (("limits", 8, ((tuple(range(8)), 1),)), 5, (0, 1, 2, 3, 4, 0, 1, 2), ((0, big),) * 8)
        self.exact((single_of(wide, tuple(range(8))), circle_span(wide)), ((0, big), (4 * big // 16, 1)))

    def test_large_boards_of_two_persons(self):
        house = ("limits", 8, ((tuple(range(8)), 3),))
        circle = (house, 2, (0, 1) * 4, ((0, 3), (1, 5), (2, 9), (0, 7), (4, 6), (3, 8), (0, 9), (1, 2)))
        self.exact(circle_span(circle), quotient_by(Fraction(excess_by_words(circle), 2)))

    def test_edges(self):
        for house in EMPTY:
            circle = (house, 2, (), ())
            self.exact((piece_spans(circle), circle_span(circle), corner_excess(circle)), ((), (0, 1), 0))
            self.exact(half_tables(circle), (((0, 1),), ((0, 1),)))
            self.not_usable("lot", piece_span, circle, ())
        barred = (("limits", 2, (((0,), 0),)), 2, (0, 1), ((0, 4), (0, 4)))
        self.exact((single_of(barred, (0,)), piece_span(barred, (1,)), circle_span(barred)), (None, (0, 1), (0, 1)))

    def test_wrong_lots(self):
        for thing in wrong_lots(4) + ((), (0,), (0, 1, 2, 3), (0, 2)):
            self.not_usable("lot", single_of, PAIRS, thing)
            self.not_usable("lot", piece_span, PAIRS, thing)
        for circle in (TRIO, PAIRS, WATCH):
            self.not_usable("circle", corner_excess, circle)
            self.not_usable("circle", half_tables, circle)

    def test_by_name(self):
        self.exact((single_of(lot=(0, 1), circle=SEAT), piece_span(lot=(0, 1), circle=SEAT)), ((0, 4), (2, 1)))
        self.exact((piece_spans(circle=SEAT), circle_span(circle=SEAT)), ((((0, 1), (2, 1)),), (2, 1)))
        self.exact((corner_excess(circle=SEAT), len(half_tables(circle=SEAT))), (4, 2))
