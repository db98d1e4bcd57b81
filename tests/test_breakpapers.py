import random

from someoneout.breakpapers import break_paper, cube_difference, lets_break
from someoneout.errors import Staying
from tests.oracles import cube_by_words, end_tellings_by_words, full_zones_by_words
from tests.support import Case, EMPTY, ODD_THINGS, PAIRS, SEAT, TRIO, drawn_circle_telling, drawn_circles

LATE = (SEAT[0], 2, (0, 1), ((0, 4), (2, 6)))
APART = (SEAT[0], 2, (0, 1), ((0, 4), (4, 9)))


class BreakPapers(Case):
    def judged(self, circle, paper):
        """Two end tellings, unlike in just one wish of each person, whose difference is not 0."""
        self.assertIs(paper.__class__, tuple)
        here, there = paper
        tellings = end_tellings_by_words(circle)
        self.assertIn(here, tellings)
        self.assertIn(there, tellings)
        moved = [circle[2][wish] for wish in range(len(here)) if here[wish] != there[wish]]
        self.assertEqual(sorted(moved), list(range(circle[1])))
        difference = cube_by_words(circle, here, there)
        self.assertNotEqual(difference, 0)
        self.exact(lets_break(circle, paper), difference)

    def test_drawn_circles(self):
        many = 0
        for circle in drawn_circles(104, 300):
            if full_zones_by_words(circle):
                self.judged(circle, break_paper(circle))
                many += 1
            else:
                self.refused(Staying, {"people": circle[1]}, break_paper, circle)
        self.assertGreater(many, 40)

    def test_pieces_that_must_be_carved(self):
        # Persons own several wishes of one piece: those that do not move are promised or refused.
        dice = random.Random(105)
        houses = (("web", 4, ((0, 1), (1, 2), (2, 3), (0, 3), (0, 2), (1, 3))), ("limits", 7, ((tuple(range(7)), 4),)),
                  ("rows", 2, ((1, 0, 0), (0, 1, 0), (0, 0, 1), (1, 1, 0), (0, 1, 1), (1, 0, 1), (1, 1, 1))))
        for house in houses:
            for _ in range(25):
                size = 6 if house[0] == "web" else 7
                people = dice.randrange(2, 6)
                owners = tuple(range(people)) + tuple(dice.randrange(people) for _ in range(size - people))
                stretches = [tuple(sorted((dice.choice((0, 1, 2, 4)), dice.choice((5, 7, 9))))) for _ in owners]
                for wish in range(people, size):
                    if dice.random() < 0.3:
                        stretches[wish] = dice.choice(((0, 1), (9, 9), (7, 9)))
                circle = (house, people, tuple(dice.sample(owners, size)), tuple(stretches))
                if full_zones_by_words(circle):
                    self.judged(circle, break_paper(circle))

    def test_other_true_papers(self):
        dice = random.Random(106)
        true = 0
        for circle in drawn_circles(106, 200):
            for _ in range(3):
                here, there = drawn_circle_telling(dice, circle), drawn_circle_telling(dice, circle)
                difference = cube_by_words(circle, here, there)
                self.exact(cube_difference(circle, here, there), difference)
                if difference:
                    self.exact(lets_break(circle, (here, there)), difference)
                    true += 1
                else:
                    self.wrong_paper("zero", -1, lets_break, circle, (here, there))
        self.assertGreater(true, 30)

    def test_known_circles(self):
        self.exact(cube_difference(SEAT, (0, 0), (4, 4)), -4)
        self.exact(cube_difference(SEAT, (4, 4), (0, 0)), -4)
        self.exact(cube_difference(SEAT, (4, 0), (0, 4)), 4)
        self.exact(cube_difference(SEAT, (1, 3), (1, 4)), 0)
        self.exact(lets_break(TRIO, ((0, 0, 0), (4, 4, 4))), -4)
        self.exact(lets_break(TRIO, ((1, 0, 0), (3, 4, 4))), -2)
        self.exact(break_paper(LATE), ((2, 2), (4, 4)))

    def test_without_wishes_or_zones(self):
        for house in EMPTY:
            circle = (house, 4, (), ())
            self.exact(cube_difference(circle, (), ()), 0)
            self.refused(Staying, {"people": 4}, break_paper, circle)
            self.wrong_paper("zero", -1, lets_break, circle, ((), ()))
        level = (SEAT[0], 2, (0, 1), ((5, 5), (5, 5)))
        self.refused(Staying, {"people": 2}, break_paper, level)
        self.refused(Staying, {"people": 4}, break_paper, PAIRS)
        self.refused(Staying, {"people": 2}, break_paper, APART)

    def test_ends_of_thirty_figures(self):
        big = 10 ** 30
        circle = (SEAT[0], 2, (0, 1), ((0, big), (1, big)))
        self.exact(lets_break(circle, break_paper(circle)), 1 - big)

    def test_wrong_tellings(self):
        wrong = tuple(thing for thing in ODD_THINGS if thing not in ((0, 0), (1, 0)))
        for thing in wrong + ((5, 0), (0, 5), (0, 0, 0), [0, 0], (True, 0), (0, False), (0,), "00"):
            self.not_usable("here", cube_difference, SEAT, thing, thing)
            self.not_usable("here", cube_difference, SEAT, thing, (0, 0))
            self.not_usable("there", cube_difference, SEAT, (0, 0), thing)
            self.wrong_paper("here", -1, lets_break, SEAT, (thing, None))
            self.wrong_paper("there", -1, lets_break, SEAT, ((0, 0), thing))
            self.wrong_paper("shape", -1, lets_break, SEAT, (thing, thing, thing))

    def test_shape(self):
        for thing in ODD_THINGS + ([(0, 0), (4, 4)], ()):
            if not isinstance(thing, tuple) or len(thing) != 2:
                self.wrong_paper("shape", -1, lets_break, SEAT, thing)
        self.wrong_paper("here", -1, lets_break, SEAT, ([0, 0], (4, 4)))
        self.wrong_paper("zero", -1, lets_break, SEAT, ((0, 0), (0, 4)))

    def test_by_name(self):
        self.exact(cube_difference(there=(4, 4), here=(0, 0), circle=SEAT), -4)
        self.exact(lets_break(thing=((0, 0), (4, 4)), circle=SEAT), -4)
        self.exact(break_paper(circle=SEAT), ((0, 0), (4, 4)))
