import random

from someoneout.others import gain_by, loss_row, loss_till, others_lose, own_worth, without_person
from tests.oracles import best_lots, free_lots, granted_by_words, worth_by_words
from tests.support import (Case, EMPTY, LIMITS, ODD_THINGS, PAIRS, SEAT, TRIO, drawn_circle, drawn_circle_telling,
                           drawn_houses)

BIG = 10 ** 30
# Person 2 owns nothing; of the wishes of person 1 the stretches are unlike.
BOTH = (LIMITS, 4, (0, 1, 1, 0, 3, 3), ((0, 4), (3, 3), (1, 9), (0, 2), (2, 7), (4, 5)))
ASKED = (own_worth, without_person, others_lose)


class Others(Case):
    def reckoned(self, circle, telling):
        """For each person their granted worth, the best worth without them, and what the others lose."""
        house, people, owners, _ = circle
        free = free_lots(house)
        granted = granted_by_words(free, telling)
        for person in range(people):
            own = worth_by_words(telling, [wish for wish in granted if owners[wish] == person])
            theirs = worth_by_words(telling, [wish for wish in granted if owners[wish] != person])
            without = [lot for lot in free if all(owners[wish] != person for wish in lot)]
            rest = worth_by_words(telling, best_lots(without, telling)[0])
            yield (own, rest, rest - theirs)

    def test_all_words(self):
        dice = random.Random(55)
        for house in drawn_houses(55, 120):
            circle = drawn_circle(dice, house)
            for _ in range(2):
                telling = drawn_circle_telling(dice, circle)
                wanted = tuple(self.reckoned(circle, telling))
                for person, row in enumerate(wanted):
                    self.exact(tuple(function(circle, telling, person) for function in ASKED), row)
                self.exact(loss_row(circle, telling), tuple(row[2] for row in wanted))
                self.exact(loss_till(circle, telling), sum(row[2] for row in wanted))

    def test_all_gains(self):
        dice = random.Random(56)
        for house in drawn_houses(56, 80):
            circle = drawn_circle(dice, house)
            free = free_lots(house)
            truth = drawn_circle_telling(dice, circle)
            other = drawn_circle_telling(dice, circle)
            for person in range(circle[1]):
                own = [wish for wish in range(len(truth)) if circle[2][wish] == person]
                told = tuple(other[wish] if wish in own else truth[wish] for wish in range(len(truth)))
                lot = granted_by_words(free, told)
                lose = list(self.reckoned(circle, told))[person][2]
                wanted = worth_by_words(truth, [wish for wish in lot if wish in own]) - lose
                self.exact(gain_by(circle, person, truth, told), wanted)

    def test_persons_without_a_wish(self):
        telling = (4, 3, 5, 0, 7, 5)
        self.exact([function(BOTH, telling, 2) for function in ASKED], [0, 14, 0])
        self.exact(gain_by(BOTH, 2, telling, telling), 0)
        for house in EMPTY:
            circle = (house, 3, (), ())
            self.exact([function(circle, (), 1) for function in ASKED], [0, 0, 0])
            self.exact((loss_row(circle, ()), loss_till(circle, ())), ((0, 0, 0), 0))
            self.exact(gain_by(circle, 1, (), ()), 0)

    def test_who_owns_all(self):
        circle = (TRIO[0], 2, (1, 1, 1), TRIO[3])
        self.exact([function(circle, (1, 3, 2), 1) for function in ASKED], [5, 0, 0])
        self.exact(loss_row(circle, (1, 3, 2)), (0, 0))

    def test_edges(self):
        self.exact(loss_row(SEAT, (0, 0)), (0, 0))
        self.exact(loss_row(SEAT, (4, 4)), (4, 0))
        self.exact(loss_till(TRIO, (4, 4, 4)), 8)
        self.exact(loss_row(PAIRS, (3, 1, 2, 4)), (1, 0, 0, 2))
        big = SEAT[:3] + (((0, BIG), (0, BIG)),)
        self.exact(loss_row(big, (BIG - 1, BIG)), (0, BIG - 1))
        self.exact(own_worth(big, (BIG - 1, BIG), 1), BIG)
        self.exact(gain_by(big, 0, (0, BIG - 1), (BIG, BIG - 1)), 1 - BIG)

    def test_wrong_tellings(self):
        for thing in ODD_THINGS + ((0,), (0, 0, 0), (5, 0), (0, 5), [1, 1], (True, 1), (1, False), (1, -1), (1, None)):
            if thing not in ((0, 0), (1, 0)):
                for function in ASKED:
                    self.not_usable("telling", function, SEAT, thing, None)
                self.not_usable("telling", loss_row, SEAT, thing)
                self.not_usable("telling", loss_till, SEAT, thing)
                self.not_usable("truth", gain_by, SEAT, 0, thing, None)
                self.not_usable("told", gain_by, SEAT, 0, (0, 0), thing)
        # The worth of wish 1 has to be 3.
        self.not_usable("telling", loss_row, BOTH, (0, 2, 1, 0, 2, 4))

    def test_wrong_persons(self):
        for thing in (True, False, None, -1, 2, "0", (), (0,), [0], 10 ** 59):
            for function in ASKED:
                self.not_usable("person", function, SEAT, (1, 2), thing)
            self.not_usable("person", gain_by, SEAT, thing, None, None)

    def test_told_for_others(self):
        self.not_usable("told", gain_by, SEAT, 0, (3, 4), (3, 3))
        self.not_usable("told", gain_by, SEAT, 0, (3, 4), (2, 3))
        self.not_usable("told", gain_by, SEAT, 1, (3, 4), (2, 4))
        self.not_usable("told", gain_by, (SEAT[0], 3, (0, 1), SEAT[3]), 2, (3, 4), (2, 4))
        self.exact(gain_by((SEAT[0], 3, (0, 1), SEAT[3]), 2, (3, 4), (3, 4)), 0)

    def test_by_name(self):
        for function in ASKED:
            self.exact(function(person=1, telling=(1, 3, 1), circle=TRIO), function(TRIO, (1, 3, 1), 1))
        self.exact(gain_by(told=(4, 4), truth=(3, 4), person=0, circle=SEAT), -1)
