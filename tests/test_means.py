import random
from fractions import Fraction

from someoneout.endboards import board_of
from someoneout.means import least_mean, lets_mean, mean_paper, pair_mean
from someoneout.odds import even_odds
from tests.oracles import (choice_sums_by_words, draws_by_words, fraction_of, places_by_words, quotient_by,
                           telling_by_words, tills_by_words)
from tests.support import (Case, EMPTY, ODD_THINGS, PAIRS, SEAT, WRONG_QUOTIENTS, drawn_circles, drawn_odds,
                           shapes_of, single_circles, wrong_tables)
from tests.test_odds import BENT, WRONG_DRAWS

EVEN = (((0, 1), (4, 1)), ((0, 1), (4, 1)))
TABLES = (((1, 1), (3, 1)), ((1, 1), (3, 1)))
SHARES = ((0, 1), (1, 2), (1, 2), (0, 1))
CHANCES = ((1, 4),) * 4
ALL_ENDS = ((0, 1), (0, 3, 8), (0, 5, 10 ** 30), (1, 2, 5, 9), (0, 2, 3, 4, 5, 6, 7))


def chances_by_words(circle, odds):
    chances = dict(draws_by_words(odds))
    return [chances.get(telling_by_words(circle, place), Fraction(0)) for place in places_by_words(board_of(circle)[0])]


def factors_of(count):
    """The prime factors of the count, the greatest one last."""
    found = []
    for prime in (2, 3, 5, 7, 11, 13, 17, 19, 23):
        while count % prime == 0:
            found.append(prime)
            count //= prime
    return found


def circle_with(dice, counts):
    """A circle of at most eleven wishes whose board has these counts, or None.

    Each person has a wish with so many ends for each prime factor; further wishes with one end make up the ends.
    """
    wishes = [(person, factor) for person, count in enumerate(counts) for factor in factors_of(count)]
    most = max([factor for _, factor in wishes] + [1])
    tops = {factor for _, factor in wishes}
    watch = [end for end in range(1, most) if end + 1 not in tops]
    size = len(wishes) + len(watch)
    if size > 11:
        return None
    ends = [0] + sorted(dice.sample(range(1, 20), most - 1))
    owners = tuple(person for person, _ in wishes) + tuple(dice.randrange(len(counts)) for _ in watch)
    stretches = tuple((ends[0], ends[factor - 1]) for _, factor in wishes) + tuple((ends[end],) * 2 for end in watch)
    cap = dice.randrange(1, max(2, len(wishes)))
    return (("limits", size, ((tuple(range(size)), cap),) if size else ()), len(counts), owners, stretches)


def circles_with_odds(seed, many, most=24, ends=ALL_ENDS):
    dice = random.Random(seed)
    for some in ends:
        for circle in list(drawn_circles(seed, many, 5, some)) + list(single_circles(seed, many, some)):
            if len(board_of(circle)[1]) <= most:
                yield circle, even_odds(circle) if dice.random() < 0.5 else drawn_odds(dice, circle, True, 256)


class Programs(Case):
    def judged(self, circle, odds, paper):
        """The mean till that the paper tells, by adding up alone."""
        board = board_of(circle)
        tables, shares = paper
        chances = chances_by_words(circle, odds)
        tills = tills_by_words(board, tables)
        self.assertGreaterEqual(min(tills), 0)
        shares = [fraction_of(share) for share in shares]
        self.assertTrue(len(shares) == len(tills) and min(shares) >= 0 and sum(shares) == 1)
        for person in range(circle[1]):
            self.assertEqual(choice_sums_by_words(board, person, shares), choice_sums_by_words(board, person, chances))
        mean = sum(till * chance for till, chance in zip(tills, chances))
        self.assertEqual(mean, (circle[1] - 1) * sum(worth * (share - chance) for worth, share, chance
                                                      in zip(board[1], shares, chances)))
        return quotient_by(Fraction(mean))

    def solved(self, circle, odds):
        paper = mean_paper(circle, odds)
        self.assertIs(paper.__class__, tuple)
        mean = self.judged(circle, odds, paper)
        self.exact(lets_mean(circle, odds, paper), mean)
        self.exact(least_mean(circle, odds), mean)
        return mean

    def test_drawn_circles(self):
        many = [0, 0]
        shapes = set()
        for circle, odds in circles_with_odds(265, 60):
            many[self.solved(circle, odds) != (0, 1)] += 1
            shapes.add(board_of(circle)[0])
        self.assertTrue(min(many) > 60 and len(shapes) > 100, (many, len(shapes)))
        self.assertTrue(max(len(places_by_words(counts)) for counts in shapes) == 24)

    def test_all_shapes(self):
        dice = random.Random(266)
        known = set()
        above = 0
        shapes = shapes_of(24)
        # Where somebody has just one row, nought is left; of these a part will do.
        for counts in [counts for counts in shapes if 1 not in counts] + shapes[::9]:
            circle = circle_with(dice, counts)
            if circle is None:
                continue
            self.assertEqual(board_of(circle)[0], counts)
            known.add(counts)
            for odds in (even_odds(circle), drawn_odds(dice, circle, True, 256)):
                above += self.solved(circle, odds) != (0, 1)
        self.assertTrue(len(known) > 200 and above > 40, (len(known), above))
        for counts in ((4, 6), (6, 4), (2, 3, 4), (4, 3, 2), (3, 2, 4), (2, 2, 2, 3), (2, 12), (8, 3), (3, 3, 2), (5, 4), (2, 11)):
            self.assertIn(counts, known)
        for counts in ((2, 2, 2, 3), (2, 3, 4), (4, 6), (2, 2, 6), (3, 3, 2)):
            for _ in range(10):
                circle = circle_with(dice, counts)
                self.solved(circle, drawn_odds(dice, circle, True, 256))

    def test_known(self):
        self.exact((self.solved(SEAT, EVEN), self.solved(PAIRS, even_odds(PAIRS))), ((1, 1), (0, 1)))
        self.exact(self.solved(SEAT, (((0, 3), (4, 1)), ((0, 1), (4, 1)))), (1, 2))
        self.exact(self.solved(SEAT, (((4, 9),), ((0, 1), (4, 1)))), (0, 1))
        self.exact(self.solved((SEAT[0], 2, (0, 1), ((0, 10 ** 30),) * 2), (((0, 1), (10 ** 30, 1)),) * 2), (10 ** 30 // 4, 1))
        for house in EMPTY:
            self.exact(self.solved((house, 2, (), ()), ()), (0, 1))

    def test_other_true_papers(self):
        # The mean of two true papers is one.
        self.exact(lets_mean(SEAT, EVEN, (TABLES, SHARES)), (1, 1))
        seconds = (((0, 1), (0, 1)), ((4, 1), (4, 1)))
        self.exact(lets_mean(SEAT, EVEN, (seconds, SHARES)), (1, 1))
        self.exact(lets_mean(SEAT, EVEN, ((((1, 2), (3, 2)), ((5, 2), (7, 2))), SHARES)), (1, 1))
        # Where the till can be 0, all shares that agree with the odds will do if the worths come to the same.
        flat = (("limits", 2, ()), 2, (0, 1), ((0, 4), (0, 4)))
        tables = (((0, 1), (4, 1)), ((0, 1), (4, 1)))
        for shares in (CHANCES, SHARES, ((1, 2), (0, 1), (0, 1), (1, 2)), ((1, 3), (1, 6), (1, 6), (1, 3))):
            self.exact(lets_mean(flat, EVEN, (tables, shares)), (0, 1))


class Pairs(Case):
    def test_pairs(self):
        dice = random.Random(267)
        for _ in range(100):
            one, other = [tuple((worth, dice.choice((1, 2, 10 ** 6)))
                                for worth in sorted(dice.sample((0, 1, 2, 5, 9, 10 ** 30), dice.randrange(1, 5))))
                          for _ in range(2)]
            heights = sorted({0} | {worth for worth, _ in one + other})
            total = Fraction(0)
            for low, high in zip(heights, heights[1:]):
                p, q = [Fraction(sum(weight for worth, weight in part if worth >= high), sum(weight for _, weight in part))
                        for part in (one, other)]
                total += (high - low) * min(p * q, (1 - p) * (1 - q))
            self.exact(pair_mean(one, other), quotient_by(total))
        self.exact((pair_mean(EVEN[0], EVEN[1]), pair_mean(((3, 1),), EVEN[0]), pair_mean(((0, 3), (4, 1)), EVEN[0])),
                   ((1, 1), (0, 1), (1, 2)))

    def test_least_means(self):
        many = 0
        for circle, odds in circles_with_odds(268, 60):
            if len(circle[2]) == 2 and sorted(circle[2]) == [0, 1] and circle[1] == 2:
                if circle[0][0] in ("limits", "web") and least_mean(circle, odds) != (0, 1):
                    self.exact(pair_mean(odds[0], odds[1]), least_mean(circle, odds))
                    many += 1
        self.assertGreater(many, 5)


class Refused(Case):
    def wrong(self, word, at, thing, odds=EVEN, circle=SEAT):
        self.wrong_paper(word, at, lets_mean, circle, odds, thing)

    def test_odds(self):
        wrong = ODD_THINGS + ((), EVEN[:1], list(EVEN), BENT) + tuple((EVEN[0], part) for part in WRONG_DRAWS)
        for thing in wrong:
            self.not_usable("odds", least_mean, SEAT, thing)
            self.not_usable("odds", mean_paper, SEAT, thing)
            self.not_usable("odds", lets_mean, SEAT, thing, None)

    def test_shape_and_tables(self):
        for thing in ODD_THINGS + ([TABLES, SHARES], (TABLES,), (TABLES, SHARES, 0), ()):
            if not (isinstance(thing, tuple) and len(thing) == 2):
                self.wrong("shape", -1, thing)
        for thing in wrong_tables((2, 2)):
            self.wrong("tables", -1, (thing, None))

    def test_short(self):
        self.wrong("short", 0, ((((-1, 1), (4, 1)), ((0, 1), (4, 1))), None))
        self.wrong("short", 1, ((((0, 1), (3, 1)), ((0, 1), (4, 1))), None))
        self.wrong("short", 2, ((((0, 1), (4, 1)), ((0, 1), (7, 2))), None))
        self.wrong("short", 3, ((((4, 1), (3, 2)), ((4, 1), (2, 1))), None))

    def test_shares(self):
        wrong = ODD_THINGS + ((), list(SHARES), SHARES[:3], SHARES + ((0, 1),), ((0, 1),) * 4, ((1, 1),) * 4,
                              ((-1, 2), (1, 2), (1, 1), (0, 1)))
        for thing in wrong + tuple((thing,) + SHARES[1:] for thing in WRONG_QUOTIENTS):
            self.wrong("shares", -1, (TABLES, thing))

    def test_agree(self):
        self.wrong("agree", 0, (TABLES, ((0, 1), (1, 1), (0, 1), (0, 1))))
        self.wrong("agree", 1, (TABLES, ((1, 2), (1, 2), (0, 1), (0, 1))))
        self.wrong("agree", 0, (TABLES, ((1, 2), (0, 1), (1, 2), (0, 1))))
        # By other odds the same shares do not agree.
        self.wrong("agree", 0, (TABLES, SHARES), (EVEN[0], ((0, 1), (4, 2))))
        self.wrong("agree", 1, (TABLES, SHARES), (((0, 1), (4, 2)), EVEN[1]))

    def test_mean(self):
        self.wrong("mean", -1, (TABLES, CHANCES))
        self.wrong("mean", -1, ((((0, 1), (4, 1)), ((0, 1), (4, 1))), CHANCES))
        self.wrong("mean", -1, ((((2, 1), (4, 1)), ((0, 1), (4, 1))), SHARES))
        self.wrong("mean", -1, (TABLES, ((1, 8), (3, 8), (3, 8), (1, 8))))

    def test_by_name(self):
        self.exact((lets_mean(thing=(TABLES, SHARES), odds=EVEN, circle=SEAT), least_mean(odds=EVEN, circle=SEAT),
                    pair_mean(other=EVEN[1], one=EVEN[0]), len(mean_paper(odds=EVEN, circle=SEAT))),
                   ((1, 1), (1, 1), (1, 1), 2))
