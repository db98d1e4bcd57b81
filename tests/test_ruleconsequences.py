"""What follows for rules by tables, claims and pools: [72], [82] as far as it tells of pools, (G2), (G8), (G9)."""

import random
from fractions import Fraction

from someoneout.boards import others_of
from someoneout.circlechanges import finer
from someoneout.circlespans import circle_span
from someoneout.claims import claim_of, gain_told, times_all
from someoneout.endboards import board_of
from someoneout.errors import Full
from someoneout.gaps import gap_tables, gap_till
from someoneout.handing import handed_row, handed_tables, loss_tables
from someoneout.leavings import stays
from someoneout.liechecker import lets_lie
from someoneout.lies import lie_of
from someoneout.others import loss_row
from someoneout.poolboards import cost_difference, pool_board, pool_number, pool_span, pool_stays
from someoneout.poolchecker import is_pool
from someoneout.poolgrants import granted_units, pool_worth, units_fit
from someoneout.pools import desk_pool, queue_pool
from someoneout.pooltables import pool_tables, pool_till
from someoneout.quotients import less
from someoneout.ranks import rank_table
from someoneout.ruleclasses import Rule
from someoneout.rules import gains_at, payments_at, rule_till
from someoneout.rulespans import never_short, nobody_worse, till_ends, worst_gains
from someoneout.spanpapers import least_span
from someoneout.stayings import stay_tables
from tests.oracles import all_units, choices_by_words, fraction_of, number_of_lot, others_at, places_by_words, quotient_by
from tests.support import Case, drawn_circle_telling, drawn_pools, drawn_tables, single_circles
from tests.test_boardconsequences import small_circles
from tests.test_mixtures import drawn_tellings_of
from tests.test_poolgrants import drawn_pool_tellings


class Tables(Case):
    def test_tills_and_gains_lie_between(self):
        dice = random.Random(250)
        for circle in small_circles(250, 40, 40):
            tables = drawn_tables(dice, board_of(circle)[0])
            least, _, greatest, _ = till_ends(circle, tables)
            worst = worst_gains(circle, tables)
            for telling in drawn_tellings_of(dice, circle, 3):
                till = rule_till(circle, tables, telling)
                self.assertFalse(less(till, least) or less(greatest, till))
                for gain, bound in zip(gains_at(circle, tables, telling), worst):
                    self.assertFalse(less(gain, bound))

    def test_truth_is_best_by_claims_of_tables(self):
        dice = random.Random(251)
        for circle in small_circles(251, 30, 40):
            tables = drawn_tables(dice, board_of(circle)[0])
            claim = claim_of(circle, tables)
            self.exact(lie_of(circle, claim), None)
            for _ in range(3):
                truth, other = drawn_circle_telling(dice, circle), drawn_circle_telling(dice, circle)
                gains = gains_at(circle, tables, truth)
                for person in range(circle[1]):
                    told = tuple(other[wish] if owner == person else truth[wish] for wish, owner in enumerate(circle[2]))
                    self.exact(gain_told(circle, claim, person, truth, truth), gains[person])
                    self.assertFalse(less(gains[person], gain_told(circle, claim, person, truth, told)))

    def test_losses_and_handed(self):
        dice = random.Random(252)
        many = [0, 0]
        for circle in small_circles(252, 50, 60):
            losses = loss_tables(circle)
            self.exact((never_short(circle, losses), nobody_worse(circle, losses)), (True, True))
            tellings = list(drawn_tellings_of(dice, circle, 2))
            for telling in tellings:
                self.exact(payments_at(circle, losses, telling), tuple((loss, 1) for loss in loss_row(circle, telling)))
            try:
                handed = handed_tables(circle)
            except Full:
                many[0] += 1
                continue
            many[1] += 1
            # Where no piece of the house is full, the circle stays.
            self.exact((stays(circle), nobody_worse(circle, handed)), (True, True))
            rule = Rule(circle, handed)
            for telling in tellings:
                row = handed_row(circle, telling)
                self.assertEqual(sum(row), 0)
                self.exact(rule.payments(telling), tuple((pay, 1) for pay in row))
                self.exact(rule.till(telling), (0, 1))
        self.assertTrue(min(many) > 20, many)

    def test_stays(self):
        dice = random.Random(253)
        many = 0
        for circle in small_circles(253, 60, 60, ((0, 1), (0, 3, 8), (0, 3, 4, 9), (0, 10 ** 30))):
            if stays(circle):
                many += 1
                tables = stay_tables(circle)
                for telling in drawn_tellings_of(dice, circle, 2):
                    self.exact(rule_till(circle, tables, telling), (0, 1))
                    self.assertTrue(all(top >= 0 for top, _ in gains_at(circle, tables, telling)))
        self.assertGreater(many, 50)

    def test_gaps(self):
        dice = random.Random(254)
        many = 0
        for circle in single_circles(254, 120):
            if len(board_of(circle)[1]) > 100:
                continue
            tables = gap_tables(circle)
            for telling in drawn_tellings_of(dice, circle, 2):
                self.exact(rule_till(circle, tables, telling), gap_till(circle, telling))
            span = fraction_of(circle_span(circle))
            least, _, greatest, _ = till_ends(circle, tables)
            self.exact((least, greatest), (quotient_by(-span / 2), quotient_by(span / 2)))
            many += span > 0
        self.assertGreater(many, 30)


class Claims(Case):
    def tables_with(self, circle, claim):
        """The tables whose dues are the claim's amounts, or None."""
        counts = board_of(circle)[0]
        tables = []
        for person, amounts in enumerate(claim):
            dues = {}
            for place, amount in zip(places_by_words(counts), amounts):
                if dues.setdefault(others_at(place, person), amount) != amount:
                    return None
            tables.append(tuple(dues[choice] for choice in choices_by_words(counts, person)))
        return tuple(tables)

    def test_lies(self):
        dice = random.Random(255)
        many = [0, 0]
        for circle in small_circles(255, 40, 40):
            counts, worths = board_of(circle)
            claim = claim_of(circle, drawn_tables(dice, counts))
            if dice.random() < 0.8:
                person, at = dice.randrange(circle[1]), dice.randrange(len(worths))
                bent = claim[person][:at] + ((dice.randrange(99), 1),) + claim[person][at + 1:]
                claim = claim[:person] + (bent,) + claim[person + 1:]
            lie = lie_of(circle, claim)
            tables = self.tables_with(circle, claim)
            self.assertEqual(lie is None, tables is not None)
            many[lie is None] += 1
            if lie is None:
                self.exact(claim_of(circle, tables), claim)
                continue
            person, wish, here, there = lie
            half = fraction_of(lets_lie(circle, claim, lie))
            twice = finer(circle, 2)
            doubled = times_all(claim, 2)
            truth = tuple(2 * worth for worth in here)
            told = truth[:wish] + (here[wish] + there[wish],) + truth[wish + 1:]
            gains = [fraction_of(gain_told(twice, doubled, person, truth, row)) for row in (told, truth)]
            self.assertEqual(gains[0] - gains[1], 2 * half)
            # Each part of the way that is less than all of it gains that part of the difference.
            for part in (1, 3, 4):
                fine = finer(circle, 5)
                worth = here[wish] * (5 - part) + there[wish] * part
                truth = tuple(5 * worth for worth in here)
                told = truth[:wish] + (worth,) + truth[wish + 1:]
                gains = [fraction_of(gain_told(fine, times_all(claim, 5), person, truth, row)) for row in (told, truth)]
                self.assertEqual(gains[0] - gains[1], 5 * Fraction(part, 5) * 2 * half)
        self.assertTrue(min(many) > 15, many)


class Pools(Case):
    def test_layers(self):
        dice = random.Random(256)
        for pool in drawn_pools(256, 60):
            units = all_units(pool)
            for telling in drawn_pool_tellings(dice, pool):
                heights = [0] + sorted({worth for worth in telling if worth > 0})
                layers = [[person for person, worth in enumerate(telling) if worth >= height] for height in heights[1:]]
                ways = [top - low for low, top in zip(heights, heights[1:])]
                most = [pool[0][number_of_lot(layer)] for layer in layers]
                best = pool_worth(pool, telling)
                self.assertEqual(best, sum(way * many for way, many in zip(ways, most)))
                self.assertTrue(units_fit(pool, granted_units(pool, telling)))
                for row in dice.sample(units, min(20, len(units))):
                    full = all(sum(row[person] for person in layer) == many for layer, many in zip(layers, most))
                    self.assertEqual(sum(worth * got for worth, got in zip(telling, row)) == best, full)

    def test_queues_and_desks(self):
        dice = random.Random(257)
        for _ in range(80):
            people = dice.randrange(2, 6)
            stretches = ((0, 4),) * people
            costs = tuple(dice.randrange(9) for _ in range(people))
            self.exact(pool_number(queue_pool(costs, stretches)), cost_difference(costs))
            lengths = tuple(dice.randrange(1, 9) for _ in range(people))
            wanted = lengths[0] * lengths[1] if people == 2 else 0
            self.exact(pool_number(desk_pool(lengths, stretches)), wanted)

    def test_circles_of_one_wish_each(self):
        many = 0
        for circle in single_circles(258, 120):
            if circle[2] != tuple(range(circle[1])) and sorted(circle[2]) == list(range(circle[1])):
                circle = circle[:2] + (tuple(range(circle[1])), circle[3])
            if circle[2] == tuple(range(circle[1])):
                pool = (rank_table(circle[0]), circle[3])
                self.assertTrue(is_pool(pool))
                self.exact((pool_board(pool), pool_span(pool)), (board_of(circle), circle_span(circle)))
                self.exact(pool_stays(pool), stays(circle))
                many += 1
        self.assertGreater(many, 50)

    def test_stays_exactly_if_the_least_span_is_nought(self):
        many = [0, 0]
        dice = random.Random(259)
        for pool in drawn_pools(259, 200, (0, 1, 3)):
            board = pool_board(pool)
            if len(board[1]) > 24:
                continue
            many[pool_stays(pool)] += 1
            self.exact(pool_stays(pool), least_span(board) == (0, 1))
            if pool_stays(pool):
                tables = pool_tables(pool)
                for telling in drawn_pool_tellings(dice, pool):
                    self.exact(pool_till(pool, tables, telling), (0, 1))
            self.assertEqual(len(others_of(board, 0)) * board[0][0], len(board[1]))
        self.assertTrue(min(many) > 20, many)
