import random

from someoneout.errors import Full
from someoneout.staypapers import lets_stay, stay_paper
from tests.oracles import (full_zones_by_words, zone_parts_by_words, zone_pieces_by_words, zone_ranks_by_words,
                           zones_by_words)
from tests.support import Case, EMPTY, ODD_THINGS, PAIRS, SEAT, drawn_circles, wrong_lots, wrong_persons

APART = (SEAT[0], 2, (0, 1), ((0, 4), (4, 9)))
# Two courts for two pairs, a wish that is low, and one that is high in the one zone of the courts.
COURTS = (("limits", 6, (((0, 1), 1), ((2, 3), 1))), 4, (0, 1, 2, 3, 0, 1),
          ((0, 4), (0, 4), (0, 4), (0, 4), (4, 4), (0, 0)))


def parting_of(dice, pieces):
    """The pieces put together by chance, in any sequence."""
    lots = []
    for piece in pieces:
        if lots and dice.random() < 0.4:
            at = dice.randrange(len(lots))
            lots[at] = tuple(sorted(lots[at] + piece))
        else:
            lots.append(piece)
    dice.shuffle(lots)
    return lots


class StayPapers(Case):
    def judged(self, circle, paper):
        """Whether the paper is one, straight from its description."""
        zones = zones_by_words(circle)
        self.assertIs(paper.__class__, tuple)
        self.assertEqual(len(paper), len(zones))
        for zone, pairs in zip(zones, paper):
            self.assertIs(pairs.__class__, tuple)
            rank = zone_ranks_by_words(circle, zone)
            _, between = zone_parts_by_words(circle, zone)
            self.assertEqual(sorted(wish for lot, _ in pairs for wish in lot), between)
            self.assertEqual(sum(rank(lot) for lot, _ in pairs), rank(between))
            for lot, person in pairs:
                self.assertTrue(lot and 0 <= person < circle[1])
                self.assertNotIn(person, [circle[2][wish] for wish in lot])

    def test_drawn_circles(self):
        many = 0
        for circle in drawn_circles(102, 250):
            full = full_zones_by_words(circle)
            if full:
                self.refused(Full, {"zone": full[0][0], "lot": full[0][1]}, stay_paper, circle)
            else:
                paper = stay_paper(circle)
                self.judged(circle, paper)
                self.exact(lets_stay(circle, paper), len(zones_by_words(circle)))
                many += 1
        self.assertGreater(many, 50)

    def test_other_true_papers(self):
        dice = random.Random(103)
        accepted = refused = 0
        for circle in drawn_circles(103, 250):
            paper = []
            true = True
            for at, zone in enumerate(zones_by_words(circle)):
                pairs = []
                for lot in parting_of(dice, zone_pieces_by_words(circle, zone)):
                    out = [person for person in range(circle[1]) if person not in [circle[2][wish] for wish in lot]]
                    true = true and len(out) > 0
                    pairs.append((lot, dice.choice(out) if out else 0))
                paper.append(tuple(pairs))
            if true:
                self.exact(lets_stay(circle, tuple(paper)), len(paper))
                accepted += 1
            else:
                first = [at for at, pairs in enumerate(paper)
                         if any(person in [circle[2][wish] for wish in lot] for lot, person in pairs)][0]
                self.wrong_paper("person", first, lets_stay, circle, tuple(paper))
                refused += 1
        self.assertTrue(accepted > 50 and refused > 10, (accepted, refused))

    def test_full_with_the_first_pair(self):
        court = (("limits", 4, (((0, 3), 1), ((1, 2), 1))), 2, (0, 1, 0, 1), ((0, 4), (0, 2), (1, 6), (0, 9)))
        self.refused(Full, {"zone": (0, 1), "lot": (0, 3)}, stay_paper, court)
        late = (SEAT[0], 2, (0, 1), ((0, 4), (2, 6)))
        self.refused(Full, {"zone": (2, 4), "lot": (0, 1)}, stay_paper, late)

    def test_without_zones(self):
        for house in EMPTY:
            self.exact(stay_paper((house, 3, (), ())), ())
            self.exact(lets_stay((house, 3, (), ()), ()), 0)
        level = (SEAT[0], 2, (0, 1), ((5, 5), (5, 5)))
        self.exact((stay_paper(level), lets_stay(level, ())), ((), 0))
        gap = (SEAT[0], 2, (0, 1), ((0, 1), (3, 4)))
        self.exact(stay_paper(gap), ((((0,), 1),), (), (((1,), 0),)))

    def test_by_name(self):
        self.exact(lets_stay(thing=stay_paper(circle=APART), circle=APART), 2)


class Refused(Case):
    TRUE = ((((0, 1), 2), ((2, 3), 0)),)

    def wrong(self, word, at, thing, circle=COURTS):
        self.wrong_paper(word, at, lets_stay, circle, thing)

    def test_true_papers(self):
        for pairs in ((((2, 3), 1), ((0, 1), 3)), (((0, 1), 3), ((2, 3), 0))):
            self.exact(lets_stay(COURTS, (pairs,)), 1)
        self.exact(lets_stay((COURTS[0], 5) + COURTS[2:], ((((0, 1, 2, 3), 4),),)), 1)
        self.exact(lets_stay(PAIRS, self.TRUE), 1)

    def test_shape(self):
        for thing in ODD_THINGS + ((), self.TRUE + self.TRUE, list(self.TRUE)):
            if not isinstance(thing, tuple) or len(thing) != 1:
                self.wrong("shape", -1, thing)

    def test_parts(self):
        for thing in ODD_THINGS + (list(self.TRUE[0]), ((0, 1), 2), ()):
            self.wrong("parts", 0, (thing,))
            self.wrong("parts", 1, ((((0,), 1),), thing), APART)
        for lot in wrong_lots(6) + ((),):
            self.wrong("parts", 0, ((((0, 1), 2), (lot, 0)),))
        self.wrong("parts", 0, (self.TRUE[0] + (((), 0),),))
        for person in wrong_persons(4):
            self.wrong("parts", 0, ((((0, 1), 2), ((2, 3), person)),))
        for pairs in ((((0, 1), 2),), (((0, 1), 2), ((2, 3), 0), ((0, 1), 2)), (((0, 1, 5), 2), ((2, 3), 0)),
                      (((0, 1), 2), ((1, 2, 3), 0)), (((0, 1), 2), ((2, 3), 0), ((4,), 1)), (((0, 1), 2), ((2, 3), 0, 0)),
                      (((0, 1), 2), [(2, 3), 0]), (((0, 1), 2), ((2, 3),)), (((0, 1), 2), ((2, 3), True))):
            self.wrong("parts", 0, (pairs,))

    def test_person(self):
        self.wrong("person", 0, ((((0, 1), 2), ((2, 3), 3)),))
        self.wrong("person", 0, ((((0, 1), 0), ((2, 3), 0)),))
        self.wrong("person", 0, ((((0, 1, 2, 3), 0),),))
        self.wrong("person", 1, ((((0,), 1),), (((1,), 1),)), APART)

    def test_ranks(self):
        self.wrong("ranks", 0, ((((0, 2), 1), ((1, 3), 0)),))
        self.wrong("ranks", 0, ((((0,), 1), ((1,), 2), ((2, 3), 0)),))

    def test_one_by_one(self):
        self.wrong("person", 0, ((((0,), 0),), None), APART)
        self.wrong("parts", 0, (None, (((1,), 1),)), APART)
        crowded = (("limits", 3, (((0, 1, 2), 1),)), 3, (0, 1, 1), ((0, 9), (0, 5), (0, 0)))
        self.exact(lets_stay(crowded, ((((0, 1), 2),), (((0,), 1),))), 2)
        self.wrong("ranks", 0, ((((0,), 1), ((1,), 2)), (None,)), crowded)
        self.wrong("parts", 1, ((((0, 1), 2),), (None,)), crowded)
        # A person who owns a wish of the lot goes before ranks that do not add up.
        self.wrong("person", 0, ((((0,), 0), ((1,), 2)), ()), crowded)
