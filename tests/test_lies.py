import random
from fractions import Fraction

from someoneout.claims import claim_of
from someoneout.endboards import board_of
from someoneout.liechecker import lets_lie
from someoneout.lies import lie_of
from tests.oracles import (fraction_of, others_at, own_by_words, places_by_words, quotient_by, telling_by_words)
from tests.support import (Case, EMPTY, ODD_THINGS, SEAT, drawn_circles, drawn_tables, wrong_persons, wrong_wishes)
from tests.test_claims import CLAIM, drawn_claim, wrong_claims

BLIND = (((0, 1), (4, 1), (0, 1), (4, 1)), ((0, 1), (0, 1), (4, 1), (4, 1)))
OTHER_TELLINGS = tuple(thing for thing in ODD_THINGS if thing not in ((0, 0), (1, 0))) \
    + ((5, 0), (0,), (), (0, 0, 0), [0, 0], (True, 0), (0, (1, 2)))
# Ends 0, 2, 4, 6; the first wish goes over three of them.
LATE = (SEAT[0], 2, (0, 1), ((0, 4), (2, 6)))


def lies_by_words(circle, claim):
    """All quadruples that are lies, with what lets_lie returns for them."""
    counts = board_of(circle)[0]
    told = [telling_by_words(circle, place) for place in places_by_words(counts)]
    ends = sorted({end for stretch in circle[3] for end in stretch})
    lies = {}
    for person in range(circle[1]):
        amounts = dict(zip(told, [fraction_of(amount) for amount in claim[person]]))
        for wish in own_by_words(circle, person):
            for here in told:
                for end in ends:
                    there = here[:wish] + (end,) + here[wish + 1:]
                    near = [other for other in ends if min(here[wish], end) < other < max(here[wish], end)]
                    if there in amounts and end != here[wish] and not near and amounts[here] > amounts[there]:
                        lies[(person, wish, here, there)] = quotient_by((amounts[here] - amounts[there]) / 2)
    return lies


def is_blind_by_words(circle, claim):
    counts = board_of(circle)[0]
    for person, amounts in enumerate(claim):
        known = {}
        for place, amount in zip(places_by_words(counts), amounts):
            if known.setdefault(others_at(place, person), amount) != amount:
                return False
    return True


class Lies(Case):
    def judged(self, circle, claim):
        lies = lies_by_words(circle, claim)
        lie = lie_of(circle, claim)
        self.assertEqual(is_blind_by_words(circle, claim), not lies)
        if not lies:
            self.exact(lie, None)
            return False
        self.exact(lets_lie(circle, claim, lie), lies[lie])
        for other, half in list(lies.items())[::7]:
            self.exact(lets_lie(circle, claim, other), half)
        return True

    def test_drawn_circles(self):
        dice = random.Random(225)
        many = [0, 0]
        for ends in ((0, 3, 8), (0, 10 ** 30), (0, 1)):
            for circle in drawn_circles(225, 40, 4, ends):
                board = board_of(circle)
                if len(board[1]) > 40:
                    continue
                claim = claim_of(circle, drawn_tables(dice, board[0]))
                self.exact(self.judged(circle, claim), False)
                # One amount bent.
                person, at = dice.randrange(circle[1]), dice.randrange(len(board[1]))
                bent = quotient_by(fraction_of(claim[person][at]) + dice.choice((-1, Fraction(1, 7), 10 ** 30)))
                amounts = claim[person][:at] + (bent,) + claim[person][at + 1:]
                many[self.judged(circle, claim[:person] + (amounts,) + claim[person + 1:])] += 1
                many[self.judged(circle, drawn_claim(dice, circle, len(board[1])))] += 1
        self.assertTrue(min(many) > 15, many)

    def test_known(self):
        self.exact(lets_lie(SEAT, CLAIM, (0, 0, (4, 0), (0, 0))), (2, 1))
        self.exact(lie_of(SEAT, BLIND), None)
        bent = (BLIND[0], BLIND[1][:3] + ((9, 2),))
        self.exact(lie_of(SEAT, bent), (1, 1, (4, 4), (4, 0)))
        self.exact(lets_lie(SEAT, bent, (1, 1, (4, 4), (4, 0))), (1, 4))
        for house in EMPTY:
            self.exact(lie_of((house, 2, (), ()), (((1, 2),), ((-3, 1),))), None)

    def test_wrong_claims(self):
        for thing in wrong_claims(CLAIM):
            self.not_usable("claim", lie_of, SEAT, thing)
            self.not_usable("claim", lets_lie, SEAT, thing, None)

    def test_by_name(self):
        self.exact(lie_of(claim=BLIND, circle=SEAT), None)
        self.exact(lets_lie(thing=(0, 0, (4, 0), (0, 0)), claim=CLAIM, circle=SEAT), (2, 1))


class Refused(Case):
    def wrong(self, word, thing, circle=SEAT, claim=CLAIM):
        self.wrong_paper(word, -1, lets_lie, circle, claim, thing)

    def test_shape(self):
        for thing in ODD_THINGS + ([0, 0, (4, 0), (0, 0)], (0, 0, (4, 0)), (0, 0, (4, 0), (0, 0), 0)):
            self.wrong("shape", thing)

    def test_person_and_wish(self):
        for thing in wrong_persons(2):
            self.wrong("person", (thing, None, None, None))
        for thing in wrong_wishes(2) + (1,):
            self.wrong("wish", (0, thing, None, None))
        self.wrong("wish", (1, 0, None, None))

    def test_tellings(self):
        for thing in OTHER_TELLINGS + ((2, 0), (4, 3)):
            self.wrong("here", (0, 0, thing, None))
            self.wrong("there", (0, 0, (4, 0), thing))
        # In the other wish alone, in both, in none.
        for thing in ((4, 4), (0, 4), (4, 0)):
            self.wrong("there", (0, 0, (4, 0), thing))
        for thing in ((4, 0), (4, 4), (0, 4)):
            self.wrong("there", (1, 1, (0, 4), thing))
        claim = tuple((tuple((number, 1) for number in range(9))) for _ in range(2))
        self.exact(lets_lie(LATE, claim, (0, 0, (2, 4), (0, 4))), (3, 2))
        self.wrong("there", (0, 0, (4, 4), (0, 4)), LATE, claim)
        self.wrong("there", (0, 0, (0, 4), (4, 4)), LATE, claim)
        self.wrong("there", (0, 0, (4, 4), (3, 4)), LATE, claim)

    def test_less(self):
        self.wrong("less", (0, 0, (0, 0), (4, 0)))
        self.wrong("less", (0, 0, (0, 4), (4, 4)))
        self.wrong("less", (1, 1, (4, 0), (4, 4)))
        self.exact(lets_lie(SEAT, CLAIM, (1, 1, (0, 4), (0, 0))), (2, 1))
