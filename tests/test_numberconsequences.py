"""What follows for pieces, zones, numbers and terms: [42], [52], and the guarantees (G3), (G4) and (G7)."""

import random
from itertools import product

from someoneout.breakpapers import break_paper, cube_difference, lets_break
from someoneout.carving import carved, lets_carving
from someoneout.circlechanges import narrowed
from someoneout.corners import corner_difference, level_difference
from someoneout.covers import all_bases, barred_of, forced_of
from someoneout.errors import InvalidPaper, Staying
from someoneout.grants import best_worth
from someoneout.housechanges import turned_house
from someoneout.houses import size_of
from someoneout.leans import inner_least, lean_bases, outer_least, spread_of
from someoneout.leasts import least_terms, ranks_by_terms, term_of, worth_by_terms
from someoneout.leavings import full_pieces, stays
from someoneout.limitpieces import limit_pieces
from someoneout.limitruns import limits_number, limits_signed, signed_ranks
from someoneout.piecepapers import lets_parting
from someoneout.pieces import is_one_piece, pieces_of
from someoneout.ranks import rank_of, rank_table
from someoneout.reductions import partner_lots, partners_promised, twin_lots, twins_refused
from someoneout.rings import all_rings, cut_by
from someoneout.staypapers import lets_stay, stay_paper
from someoneout.sums import number_in, number_of, signed_sum
from someoneout.takings import taken_apart
from someoneout.zones import zones_of
from tests.oracles import end_tellings_by_words, lots_of
from tests.support import (Case, TIED, drawn_circle, drawn_circle_telling, drawn_circles, drawn_houses, drawn_tellings,
                           random_limits)
from tests.test_piecepapers import partings_of


def houses(seed, many, most=5):
    return TIED + tuple(drawn_houses(seed, many, most))


def all_wishes(house):
    return tuple(range(size_of(house)))


class Partings(Case):
    def test_partings_by_pieces(self):
        for house in houses(130, 50, 4):
            if size_of(house) > 5:
                continue
            pieces = pieces_of(house)
            for parting in partings_of(all_wishes(house)):
                if all(any(set(piece) <= set(lot) for lot in parting) for piece in pieces):
                    self.exact(lets_parting(house, parting), len(parting))
                else:
                    self.assertRaises(InvalidPaper, lets_parting, house, parting)

    def test_rings_and_cuts(self):
        for house in houses(131, 60):
            rings = all_rings(house)
            for base in all_bases(house):
                for wish in base:
                    cut = set(cut_by(house, base, wish))
                    self.assertNotIn(1, [len(cut & set(ring)) for ring in rings])


class StayingCircles(Case):
    def test_circles_without_full_pieces(self):
        for circle in drawn_circles(132, 200):
            if not full_pieces(circle):
                self.assertTrue(stays(circle))

    def test_differences_are_nought_if_it_stays(self):
        dice = random.Random(133)
        many = 0
        for circle in drawn_circles(133, 150):
            if stays(circle):
                for _ in range(4):
                    here, there = drawn_circle_telling(dice, circle), drawn_circle_telling(dice, circle)
                    self.exact(cube_difference(circle, here, there), 0)
                many += 1
        self.assertGreater(many, 60)

    def test_narrower_circles_still_stay(self):
        dice = random.Random(134)
        for circle in drawn_circles(134, 200):
            if stays(circle) and circle[2]:
                for _ in range(3):
                    wish = dice.randrange(len(circle[2]))
                    low, high = circle[3][wish]
                    low = dice.randrange(low, high + 1)
                    circle = narrowed(circle, wish, low, dice.randrange(low, high + 1))
                    self.assertTrue(stays(circle))

    def test_third_guarantee(self):
        for circle in drawn_circles(135, 200):
            if stays(circle):
                self.exact(lets_stay(circle, stay_paper(circle)), len(zones_of(circle)))
                self.assertRaises(Staying, break_paper, circle)
            else:
                self.assertNotEqual(lets_break(circle, break_paper(circle)), 0)

    def test_third_guarantee_over_all_end_tellings(self):
        dice = random.Random(136)
        for house in houses(136, 40, 3):
            circle = drawn_circle(dice, house, (0, 2, 5))
            tellings = end_tellings_by_words(circle)
            if len(tellings) < 30:
                found = any(cube_difference(circle, here, there) for here, there in product(tellings, tellings))
                self.exact(found, not stays(circle))

    def test_one_stretch_for_all(self):
        dice = random.Random(137)
        for house in houses(137, 100):
            people = dice.randrange(2, 5)
            owners = tuple(dice.randrange(people) for _ in all_wishes(house))
            circle = (house, people, owners, ((1, 5),) * len(owners))
            self.exact(stays(circle), full_pieces(circle) == ())
            self.assertTrue(stays(circle[:3] + (((5, 5),) * len(owners),)))


class Carvings(Case):
    def test_fourth_guarantee(self):
        for house in houses(138, 60, 4):
            if is_one_piece(house):
                for lot in lots_of(size_of(house))[1:]:
                    paper = carved(house, lot)
                    self.exact(lets_carving(house, lot, paper), len(paper[0]))

    def test_limits(self):
        dice = random.Random(139)
        for at in range(150):
            house = random_limits(dice, at % 9)
            self.exact(limit_pieces(house), pieces_of(house))
            self.exact(limits_signed(house), signed_ranks(house))
            self.exact(limits_number(house), number_of(house))


class SeventhGuarantee(Case):
    def test_number_by_pieces(self):
        for house in houses(140, 120):
            number = number_of(house)
            if size_of(house) > 1:
                self.exact(number > 0, is_one_piece(house))
                self.exact(number_of(turned_house(house)), number)

    def test_taken_apart(self):
        for house in houses(141, 100):
            number = number_of(house)
            for wish in all_wishes(house):
                if wish in forced_of(house):
                    refused, promised = taken_apart(house, wish)
                    self.exact(refused, promised)
                elif wish not in barred_of(house):
                    self.exact(sum(taken_apart(house, wish)), number)

    def test_lean_bases_and_spreads(self):
        dice = random.Random(142)
        for house in houses(142, 80):
            bases = all_bases(house)
            spreads = []
            for _ in range(2):
                order = tuple(dice.sample(all_wishes(house), size_of(house)))
                if all_wishes(house):
                    self.exact(len(lean_bases(house, order)), number_of(house))
                spreads.append(spread_of(house, order))
                self.exact(sum(many for _, _, many in spreads[-1]), len(bases))
                turned = turned_house(house)
                self.exact(spread_of(turned, order), tuple(sorted((j, i, many) for i, j, many in spreads[-1])))
                for base in bases:
                    rest = tuple(wish for wish in all_wishes(house) if wish not in base)
                    self.exact(inner_least(turned, order, rest), outer_least(house, order, base))
            self.exact(spreads[0], spreads[1])

    def test_terms(self):
        for house in houses(143, 100):
            rings = all_rings(house)
            barred = barred_of(house)
            for lot in lots_of(size_of(house)):
                term = term_of(house, lot)
                odd = (len(lot) - rank_of(house, lot)) % 2
                self.exact(term, -number_in(house, lot) if odd else number_in(house, lot))
                if lot in rings and len(lot) > 1:
                    self.exact(term, -1)
                if lot:
                    kept = ("table", len(lot), tuple(rank_table(house)[sum(2 ** lot[at] for at in part)]
                                                     for part in sorted(lots_of(len(lot)),
                                                                        key=lambda part: sum(2 ** at for at in part))))
                    self.exact(term != 0, is_one_piece(kept) and not (len(lot) == 1 and lot[0] in barred))


class Numbers(Case):
    def test_signed_sums(self):
        for house in houses(144, 150):
            number = number_of(house)
            rank = rank_of(house, all_wishes(house))
            self.exact(signed_sum(house), -number if rank % 2 else number)
            counts = signed_ranks(house)
            self.exact(len(counts), rank + 1)
            self.exact(sum(at * count for at, count in enumerate(counts)), signed_sum(house))
            self.exact(sum(counts), 0 if all_wishes(house) else 1)

    def test_reductions(self):
        for house in houses(145, 150):
            less = twins_refused(house)
            self.exact((twin_lots(less), number_of(less)), ((), number_of(house)))
            less = partners_promised(house)
            self.exact(partner_lots(less), ())
            if all_wishes(house) in all_rings(house) and size_of(house) > 1:
                self.exact(less, ("table", 1, (0, 0)))
            else:
                self.exact(number_of(less), number_of(house))

    def test_ranks_and_worths_by_terms(self):
        dice = random.Random(146)
        for house in houses(146, 80):
            terms = least_terms(house)
            self.exact(ranks_by_terms(size_of(house), terms), rank_table(house))
            for telling in drawn_tellings(dice, size_of(house)):
                self.exact(worth_by_terms(terms, telling), best_worth(house, telling))

    def test_corners(self):
        dice = random.Random(147)
        for house in houses(147, 60):
            size = size_of(house)
            if size == 0:
                continue
            tellings = list(drawn_tellings(dice, size))
            term = term_of(house, all_wishes(house))
            for here in tellings:
                there = dice.choice(tellings)
                total = 0
                for lot in lots_of(size):
                    least = min(there[wish] if wish in lot else here[wish] for wish in range(size))
                    total += -least if (size - len(lot)) % 2 else least
                self.exact(corner_difference(house, here, there), term * total)
            for low, high in ((0, 3), (2, 2), (7, 1), (10 ** 30, 0), (0, 10 ** 30)):
                wanted = term * (high - low) if low <= high else signed_sum(house) * (low - high)
                self.exact(level_difference(house, low, high), wanted)
