"""What follows for odds, what heals, and offices: [82], [92], the guarantees (G10), (G11) and (G12)."""

import random
from fractions import Fraction
from math import prod

from someoneout.circlechanges import beside_circles, kept_circle
from someoneout.circlespans import circle_span
from someoneout.endboards import board_of
from someoneout.errors import InvalidEvent
from someoneout.eventreadings import read_event, read_log
from someoneout.eventtexts import event_line, log_text
from someoneout.healing import changed_circle, healing_wishes, joined_circle
from someoneout.housechanges import as_table
from someoneout.leavings import full_pieces, stays
from someoneout.losses import best_dice, dice_loss, loss_at, worst_dice, worst_loss
from someoneout.means import least_mean, mean_paper, pair_mean
from someoneout.odds import even_odds, mean_worth
from someoneout.offices import Office
from someoneout.ranks import rank_of, rank_table
from someoneout.replaying import replayed
from someoneout.squares import least_square, mixed_part, square_by_number
from someoneout.sums import number_of
from tests.officebook import Book, drawn_event, office_state
from tests.oracles import dues_by_words, draws_by_words, fraction_of, places_by_words, quotient_by
from tests.support import (Case, SEAT, drawn_circle_telling, drawn_circles, drawn_odds, drawn_tables, one_pieces,
                           shuffled, single_circles)
from tests.test_boardconsequences import small_circles
from tests.test_replaying import drawn_log


def one_wish_circles(seed, many, ends=(0, 1, 3, 4)):
    """Circles with one wish for each person, the house in one piece, and the same stretch for all."""
    dice = random.Random(seed)
    for _ in range(many):
        people = dice.choice((2, 3, 3, 4, 4, 5))
        low = dice.choice(ends)
        stretch = (low, low + dice.choice((1, 4, 7)))
        yield (dice.choice(one_pieces(people)), people, shuffled(dice, range(people)), (stretch,) * people)


class Odds(Case):
    def test_square_by_number(self):
        many = 0
        dice = random.Random(340)
        for circle in single_circles(340, 120):
            odds = drawn_odds(dice, circle, False, 100)
            if dice.random() < 0.5 and prod(len(part) for part in even_odds(circle)) <= 64:
                odds = even_odds(circle)
            square = least_square(circle, odds)
            self.exact(square_by_number(circle, odds), square)
            many += square != (0, 1)
        self.assertGreater(many, 15)

    def test_no_rule_has_less(self):
        # (G10): the mean of the square of the till, and the mean till of rules never short.
        dice = random.Random(341)
        for circle in small_circles(341, 25, 24):
            odds = even_odds(circle)
            board = board_of(circle)
            square = fraction_of(least_square(circle, odds))
            chance = Fraction(1, len(board[1]))
            for tables in [drawn_tables(dice, board[0]) for _ in range(3)] + [mean_paper(circle, odds)[0]]:
                tills = [sum(dues_by_words(board, tables, place)) - (circle[1] - 1) * worth
                         for place, worth in zip(places_by_words(board[0]), board[1])]
                self.assertGreaterEqual(sum(chance * till ** 2 for till in tills), square)
                lift = -min(tills)
                self.assertGreaterEqual(sum(chance * (till + lift) for till in tills), fraction_of(least_mean(circle, odds)))

    def test_full_pieces_add_up(self):
        dice = random.Random(342)
        circles = [circle for circle in small_circles(342, 60, 12) if circle[1] == 2 and circle[2]]
        for one, other in zip(circles, circles[1:]):
            both = beside_circles(one, other)
            odds = [drawn_odds(dice, circle, False, 12) for circle in (one, other)]
            squares = [fraction_of(least_square(circle, part)) for circle, part in zip((one, other), odds)]
            self.exact(least_square(both, odds[0] + odds[1]), quotient_by(sum(squares)))
            pieces = full_pieces(both)
            parts = [least_square(kept_circle(both, piece), tuple((odds[0] + odds[1])[wish] for wish in piece))
                     for piece in pieces]
            self.exact(quotient_by(sum((fraction_of(part) for part in parts), Fraction(0))), least_square(both, odds[0] + odds[1]))

    def test_mixed_parts_have_no_mean(self):
        dice = random.Random(343)
        for circle in drawn_circles(343, 40, 4):
            odds = drawn_odds(dice, circle, False, 16)
            mean = sum((chance * fraction_of(mixed_part(circle, odds, told)) for told, chance in draws_by_words(odds)),
                       Fraction(0))
            self.assertEqual(mean, 0)
            if stays(circle):
                self.exact(mixed_part(circle, odds, drawn_circle_telling(dice, circle)), (0, 1))
                self.exact(least_square(circle, odds), (0, 1))

    def test_pairs(self):
        dice = random.Random(344)
        many = 0
        for house in (SEAT[0], ("web", 2, ((0, 1), (0, 1))), ("slots", 1, ((0,), (0,))), ("rows", 3, ((1,), (2,))),
                      as_table(SEAT[0])):
            for _ in range(20):
                ends = dice.sample((0, 1, 3, 4, 9, 10 ** 30), 4)
                stretches = tuple(tuple(sorted(pair)) for pair in (ends[:2], ends[2:]))
                circle = (house, 2, dice.choice(((0, 1), (1, 0))), stretches)
                odds = drawn_odds(dice, circle, True)
                self.exact(pair_mean(odds[0], odds[1]), least_mean(circle, odds))
                many += pair_mean(odds[0], odds[1]) != (0, 1)
        self.assertGreater(many, 5)

    def test_by_the_number(self):
        # (G12): as many times that of one seat for all.
        dice = random.Random(345)
        odd = 0
        for circle in one_wish_circles(345, 150):
            people, number = circle[1], number_of(circle[0])
            seat = (("limits", people, ((tuple(range(people)), 1),)),) + circle[1:]
            self.exact(circle_span(circle), quotient_by(number * fraction_of(circle_span(seat))))
            odds = even_odds(circle) if dice.random() < 0.5 else drawn_odds(dice, circle, True, 64)
            self.exact(least_square(circle, odds), quotient_by(number ** 2 * fraction_of(least_square(seat, odds))))
            if rank_of(circle[0], tuple(range(people))) % 2:
                self.exact(least_mean(circle, odds), quotient_by(number * fraction_of(least_mean(seat, odds))))
                odd += number > 1
        self.assertGreater(odd, 2)

    def test_mean_worths(self):
        dice = random.Random(346)
        for circle in drawn_circles(346, 30, 4):
            odds = drawn_odds(dice, circle, False, 16)
            self.assertLessEqual(fraction_of(mean_worth(circle, odds)), sum(part[-1][0] for part in odds))


class Heals(Case):
    def test_any_one_wish(self):
        # (G11)
        dice = random.Random(347)
        for circle in one_wish_circles(347, 40):
            people, (low, high) = circle[1], circle[3][0]
            wishes = tuple(range(people))
            rank = rank_of(circle[0], wishes)
            for deed, share in (("refuse", rank), ("promise", people - rank)):
                self.exact(healing_wishes(circle, deed), wishes)
                for wish in wishes:
                    self.exact(stays(changed_circle(circle, wish, deed)), True)
                    self.exact(worst_loss(circle, wish, deed), high - low)
                    self.assertLessEqual(loss_at(circle, drawn_circle_telling(dice, circle), wish, deed), high - low)
                worst, telling = worst_dice(circle, deed)
                self.exact(worst, quotient_by(Fraction((high - low) * share, people)))
                self.exact(dice_loss(circle, telling, deed), worst)

    def test_best_dice(self):
        # The least share is reached by no even dice that lose less: of all weights on its lot the even ones lose so.
        dice = random.Random(348)
        for circle in one_wish_circles(348, 30):
            for deed in ("refuse", "promise"):
                (top, bottom), lot = best_dice(circle[0], deed)
                ranks = rank_table(circle[0])
                size = len(lot)
                rest = sum(1 << wish for wish in range(circle[1]) if wish not in lot)
                known = sum(1 << wish for wish in lot)
                rank = ranks[known] if deed == "refuse" else size - (ranks[-1] - ranks[rest])
                self.assertEqual(Fraction(rank, size), Fraction(top, bottom))
                low, high = circle[3][0]
                for _ in range(5):
                    weights = [dice.randrange(1, 4) for _ in range(circle[1])]
                    worst = max(sum(weight * loss_at(circle, told, wish, deed) for wish, weight in enumerate(weights))
                                for told in self.ends(circle))
                    self.assertGreaterEqual(Fraction(worst, sum(weights)), (high - low) * Fraction(top, bottom))

    def ends(self, circle):
        low, high = circle[3][0]
        for number in range(1 << circle[1]):
            yield tuple(high if number >> wish & 1 else low for wish in range(circle[1]))

    def test_who_joins_without_a_wish(self):
        # [1]: somebody without a wish in a piece always heals it.
        for circle in drawn_circles(349, 60):
            joined = joined_circle(circle, circle[0], ())
            self.exact((stays(joined), full_pieces(joined)), (True, ()))


class Offices(Case):
    def test_drawn_offices(self):
        dice = random.Random(350)
        many = [0, 0, 0]
        for _ in range(60):
            people = dice.choice((2, 2, 3))
            book, office = Book(people), Office(people)
            house = dice.choice(one_pieces(people))
            events = [("take", 0, wish, wish, 0, 4) for wish in range(people)] + [("tell", 0, wish, wish) for wish in range(people)]
            for event in [("house", house)] + events + [("settle", 0, dice.choice(("others", ("refuse", 0))))] + [None] * 40:
                event = event or drawn_event(dice, book, 0.1)
                if book.reason(event) is not None:
                    self.assertRaises(InvalidEvent, office.go, event)
                    continue
                before = office_state(office)
                full = event[0] == "settle" and len(full_pieces(office.circle_in(event[1]))) > 0
                till = office.till_now()
                book.do(event)
                given = office.go(event)
                total = sum(office.account(person) for person in range(office.people_now())) + office.till_now()
                self.assertEqual(total, 0)
                if event[0] == "settle":
                    self.assertFalse(full and event[2] == "handed")
                    self.assertEqual(office.till_now() - till, given[2] if event[2] == "others" else 0)
                    many[0] += 1
                self.assertGreaterEqual(office.till_now(), till)
                office.undo()
                self.exact(office_state(office), before)
                if event[0] == "settle":
                    self.settles(office, event[1], full, many)
                office.go(event)
            self.assertTrue(replayed(people, office.log()) == office)
            self.exact(read_log(log_text(office.log())), office.log())
        self.assertTrue(min(many) > 10, many)

    def settles(self, office, number, full, many):
        """What of a round that can be settled is refused as full."""
        self.exact(office.barred(("settle", number, "handed")), "full" if full else None)
        many[1] += full
        takers = office.rounds_now()[number][1]
        owners = [taker[0] for taker in takers if taker is not None]
        for wish, taker in enumerate(takers):
            if taker is not None and owners.count(taker[0]) == 1:
                many[2] += full
                self.exact(office.barred(("settle", number, ("refuse", wish))), None)
                self.assertIn(office.barred(("settle", number, ("promise", wish))), (None, "barred"))

    def test_logs(self):
        dice = random.Random(351)
        for _ in range(30):
            people = dice.choice((2, 3))
            log, book = drawn_log(dice, people, 60)
            office = replayed(people, log)
            self.exact(office_state(office), book.state())
            for event in log:
                self.exact(read_event(event_line(event)), event)
            for many in range(len(log), 0, -7):
                again = replayed(people, log)
                again.undo(many)
                self.assertTrue(again == replayed(people, log[:len(log) - many]))
