"""What follows from the definitions, on drawn houses and tellings: [32], and the guarantees (G1) and (G4)."""

import random

from someoneout.bestpapers import best_paper, lets_best
from someoneout.covers import barred_of
from someoneout.errors import Crowded, InvalidPaper
from someoneout.gates import gate_of, is_best, possible_of, sure_of
from someoneout.grants import best_worth, granted, layers_of, lot_worth
from someoneout.heirs import heirs_of
from someoneout.housechanges import promised_house, refused_house
from someoneout.others import gain_by, loss_row, others_lose, own_worth, without_person
from someoneout.piecepapers import lets_parting
from someoneout.pieces import is_one_piece, pieces_of, ring_through
from someoneout.ranks import is_free, rank_of
from someoneout.ringpapers import lets_ring, ring_in
from someoneout.rings import all_rings, is_ring
from someoneout.seating import lets_crowd, lets_seats, seated
from someoneout.worthchanges import change_of, put_worth, worth_line, worth_with, worth_without
from tests.oracles import lots_of, size_by_words
from tests.support import Case, drawn_circle, drawn_circle_telling, drawn_houses, drawn_tellings, random_limits


def drawn(seed, many, tellings=1):
    """Houses and tellings of them."""
    dice = random.Random(seed)
    for house in drawn_houses(seed, many):
        for telling in drawn_tellings(dice, size_by_words(house), tellings):
            yield house, telling


def drawn_in_circles(seed, many):
    """Circles and two tellings of them that differ at the wishes of one person only, for each person."""
    dice = random.Random(seed)
    for house in drawn_houses(seed, many):
        circle = drawn_circle(dice, house)
        truth = drawn_circle_telling(dice, circle)
        for person in range(circle[1]):
            other = drawn_circle_telling(dice, circle)
            told = tuple(other[wish] if circle[2][wish] == person else truth[wish] for wish in range(len(truth)))
            yield circle, person, truth, told


class Granted(Case):
    def test_granted_sure_and_possible(self):
        for house, telling in drawn(70, 100):
            lot = granted(house, telling)
            self.assertTrue(is_best(house, telling, lot))
            self.assertLessEqual(set(sure_of(house, telling)), set(lot))
            self.assertLessEqual(set(lot), set(possible_of(house, telling)))

    def test_best_lots_and_papers(self):
        for house, telling in drawn(71, 50):
            ranks = best_paper(house, telling)[1]
            for lot in lots_of(len(telling)):
                if is_best(house, telling, lot):
                    self.exact(lets_best(house, telling, (lot, ranks)), best_worth(house, telling))
                else:
                    self.assertRaises(InvalidPaper, lets_best, house, telling, (lot, ranks))

    def test_lines_of_worths(self):
        for house, telling in drawn(72, 60):
            for wish in range(len(telling)):
                least, gate = worth_line(house, telling, wish)
                self.exact(worth_without(house, telling, (wish,)), least)
                self.exact(gate, gate_of(house, telling, wish))
                self.exact(gate is None, wish in barred_of(house))
                if gate is not None:
                    self.exact(worth_with(house, telling, (wish,)), least - gate + telling[wish])
                    for worth in (0, gate, gate + 1, gate + 7, max(0, gate - 1)):
                        line = best_worth(house, put_worth(telling, wish, worth))
                        self.exact(line, least + max(0, worth - gate))

    def test_heirs_are_worth_the_gate(self):
        for house, telling in drawn(73, 80):
            for wish, heir in heirs_of(house, telling):
                self.exact(gate_of(house, telling, wish), 0 if heir is None else telling[heir])

    def test_rings_seats_and_free_lots(self):
        for house in drawn_houses(74, 150):
            for lot in lots_of(size_by_words(house)):
                self.exact(ring_in(house, lot) is None, is_free(house, lot))
                if not is_free(house, lot):
                    ring = ring_in(house, lot)
                    self.exact(is_ring(house, ring), True)
                    self.exact(lets_ring(house, lot, ring), len(ring))
                if house[0] == "slots":
                    try:
                        self.exact(lets_seats(house, lot, seated(house, lot)), len(lot))
                        self.assertTrue(is_free(house, lot))
                    except Crowded as crowded:
                        self.assertFalse(is_free(house, lot))
                        self.assertLess(lets_crowd(house, lot, crowded.lot), len(crowded.lot))

    def test_truth_gains_most(self):
        for circle, person, truth, told in drawn_in_circles(75, 120):
            honest = gain_by(circle, person, truth, truth)
            self.exact(honest, best_worth(circle[0], truth) - without_person(circle, truth, person))
            self.assertGreaterEqual(honest, 0)
            self.assertGreaterEqual(honest, gain_by(circle, person, truth, told))


class FirstGuarantee(Case):
    def test_worth_by_layers(self):
        for house, telling in drawn(76, 60):
            layers = layers_of(house, telling)
            below = [0] + [height for height, _ in layers]
            steps = [rank_of(house, layer) * (height - down) for (height, layer), down in zip(layers, below)]
            self.exact(best_worth(house, telling), sum(steps))
            for lot in lots_of(len(telling)):
                full = all(len(set(lot) & set(layer)) == rank_of(house, layer) for _, layer in layers)
                self.exact(is_best(house, telling, lot), is_free(house, lot) and full)

    def test_sure_possible_and_gates(self):
        for house, telling in drawn(77, 80):
            gates = [gate_of(house, telling, wish) for wish in range(len(telling))]
            told = [(wish, gate, telling[wish]) for wish, gate in enumerate(gates) if gate is not None]
            self.exact(sure_of(house, telling), tuple(wish for wish, gate, worth in told if worth > gate))
            self.exact(possible_of(house, telling), tuple(wish for wish, gate, worth in told if worth >= gate))
            best = best_worth(house, telling)
            for wish, gate, worth in told:
                self.exact(best - worth_without(house, telling, (wish,)), max(0, worth - gate))
                self.exact(best - worth_with(house, telling, (wish,)), max(0, gate - worth))

    def test_one_worth_changes_one_wish(self):
        dice = random.Random(78)
        for house, telling in drawn(78, 80):
            for wish in range(len(telling)):
                gone, come = change_of(house, telling, wish, dice.choice((0, 1, 2, 3, 4, 5, 6, 7, 10 ** 30)))
                self.assertIn((len(gone), len(come)), ((0, 0), (1, 1)))

    def test_what_the_others_lose(self):
        for circle, person, truth, _ in drawn_in_circles(79, 120):
            lose = others_lose(circle, truth, person)
            self.assertTrue(0 <= lose <= own_worth(circle, truth, person))
            self.exact(loss_row(circle, truth)[person], lose)


class FourthGuarantee(Case):
    def test_one_ring_through_two_wishes(self):
        for house in drawn_houses(80, 80):
            rings = all_rings(house)
            for piece in pieces_of(house):
                for one in piece:
                    for other in piece:
                        if one != other:
                            self.assertTrue(any(one in ring and other in ring for ring in rings))
                            self.assertIn(ring_through(house, one, other), rings)

    def test_ranks_of_pieces_add_up(self):
        for house in drawn_houses(81, 80):
            pieces = pieces_of(house)
            self.exact(lets_parting(house, pieces), len(pieces))
            for lot in lots_of(size_by_words(house)):
                parts = [tuple(wish for wish in lot if wish in piece) for piece in pieces]
                self.exact(rank_of(house, lot), sum(rank_of(house, part) for part in parts))

    def test_no_ring_crosses_a_parting(self):
        dice = random.Random(82)
        for house in drawn_houses(82, 150):
            size = size_by_words(house)
            places = [dice.randrange(2) for _ in range(size)]
            lots = [tuple(wish for wish in range(size) if places[wish] == place) for place in (0, 1)]
            parting = tuple(lot for lot in lots if lot)
            crossed = any(len({places[wish] for wish in ring}) > 1 for ring in all_rings(house))
            if crossed:
                self.refused(InvalidPaper, {"word": "ranks", "at": -1}, lets_parting, house, parting)
            else:
                self.exact(lets_parting(house, parting), len(parting))

    def test_a_piece_can_be_carved(self):
        for house in drawn_houses(83, 60, 4):
            if not is_one_piece(house):
                continue
            for lot in lots_of(size_by_words(house))[1:]:
                self.assertTrue(self.can_be_carved(house, lot), (house, lot))

    def can_be_carved(self, house, lot):
        others = [wish for wish in range(size_by_words(house)) if wish not in lot]
        for at in lots_of(len(others)):
            promised = tuple(others[place] for place in at)
            if is_free(house, promised):
                rest = tuple(wish for wish in others if wish not in promised)
                # What is promised goes; the refused ones move up by as many as went before them.
                moved = tuple(wish - sum(1 for gone in promised if gone < wish) for wish in rest)
                if is_one_piece(refused_house(promised_house(house, promised), moved)):
                    return True
        return False

    def test_pieces_of_limits(self):
        dice = random.Random(84)
        for at in range(150):
            house = random_limits(dice, at % 8)
            barred = barred_of(house)
            rows = [(tuple(wish for wish in lot if wish not in barred), cap) for lot, cap in house[2]]
            binding = set()
            for lot, cap in rows:
                inner = tuple({row: min(c for other, c in rows if other == row) for row, _ in rows
                               if row and set(row) < set(lot)}.items())
                if 1 <= cap < rank_of(("limits", house[1], inner), lot):
                    binding.add(lot)
            outer = sorted(lot for lot in binding if not any(set(lot) < set(other) for other in binding))
            self.exact(tuple(piece for piece in pieces_of(house) if len(piece) > 1), tuple(outer))
