"""What several tests need: exact comparison, refusals, and houses to try."""

import random
import unittest
from itertools import product
from math import gcd, prod

from someoneout.errors import InvalidPaper, NotUsable
from tests.oracles import size_by_words, table_by_words

SEAT = (("limits", 2, (((0, 1), 1),)), 2, (0, 1), ((0, 4), (0, 4)))
TRIO = (("limits", 3, (((0, 1, 2), 2),)), 3, (0, 1, 2), ((0, 4), (0, 4), (0, 4)))
PAIRS = (("limits", 4, (((0, 1), 1), ((2, 3), 1))), 4, (0, 1, 2, 3), ((0, 4), (0, 4), (0, 4), (0, 4)))

# What is nowhere a lot, a person, a house or any other thing with a name of its own.
ODD_THINGS = (True, False, None, -1, "", "0", "limits", [], [0], [()], (True,), (False,), (None,),
              ((),), (0, 0), (1, 0), (-1,), ([],), ("limits",), (0, (1,)), 10 ** 59, -10 ** 59)

LIMITS = ("limits", 6, (((0, 1, 2, 3), 2), ((0, 1), 1), ((4,), 0)))
SLOTS = ("slots", 4, ((0, 1), (0,), (1,), (), (2, 3), (0, 1)))
WEB = ("web", 4, ((0, 1), (1, 2), (0, 2), (2, 2), (0, 1), (2, 3)))
ROWS = ("rows", 3, ((1, 0), (0, 1), (1, 1), (2, 2), (0, 0)))
TABLE = ("table", 3, (0, 1, 1, 1, 0, 1, 1, 1))
BESIDE = ("beside", (("limits", 2, (((0, 1), 1),)), ("web", 2, ((0, 1), (0, 1))), ("rows", 2, ((1,),))))
SAMPLES = (LIMITS, SLOTS, WEB, ROWS, TABLE, BESIDE)

EMPTY = (("limits", 0, ()), ("slots", 0, ()), ("slots", 3, ()), ("web", 0, ()), ("rows", 7, ()),
         ("table", 0, (0,)), ("beside", (("limits", 0, ()), ("web", 5, ()))))


class Case(unittest.TestCase):
    """A test case that tells True from 1, and a list from a tuple."""

    def exact(self, given, wanted):
        self.assertEqual(repr(given), repr(wanted))

    def refused(self, error, fields, function, *args, **named):
        """The very error with just these fields."""
        with self.assertRaises(error) as caught:
            function(*args, **named)
        self.assertIs(caught.exception.__class__, error)
        self.exact(vars(caught.exception), fields)

    def not_usable(self, word, function, *args, **named):
        self.refused(NotUsable, {"word": word, "at": -1}, function, *args, **named)

    def wrong_paper(self, word, at, function, *args):
        self.refused(InvalidPaper, {"word": word, "at": at}, function, *args)


def random_lot(dice, size):
    return tuple(wish for wish in range(size) if dice.random() < 0.5)


def random_limits(dice, size):
    """Lots that come by splitting lots, so that none cross."""
    lots = []
    waiting = [tuple(range(size))]
    while waiting:
        lot = waiting.pop()
        if lot and lot not in lots:
            if dice.random() < 0.7:
                lots.append(lot)
            part = tuple(wish for wish in lot if dice.random() < 0.5)
            if part and part != lot:
                waiting.append(part)
                waiting.append(tuple(wish for wish in lot if wish not in part))
    dice.shuffle(lots)
    return ("limits", size, tuple((lot, dice.randrange(4)) for lot in lots))


def random_plain(dice, size):
    """A house of a word other than "table" and "beside"."""
    word = dice.choice(("limits", "slots", "web", "rows"))
    if word == "limits":
        return random_limits(dice, size)
    if word == "slots":
        many = dice.randrange(5)
        return ("slots", many, tuple(random_lot(dice, many) for _ in range(size)))
    if word == "web":
        points = dice.randrange(1, 6)
        pairs = [sorted((dice.randrange(points), dice.randrange(points))) for _ in range(size)]
        return ("web", points, tuple(tuple(pair) for pair in pairs))
    prime = dice.choice((2, 3, 5))
    wide = dice.randrange(4)
    return ("rows", prime, tuple(tuple(dice.randrange(prime) for _ in range(wide)) for _ in range(size)))


def random_houses(seed, many, most=5):
    """Houses of all words but "table", drawn the same each time."""
    dice = random.Random(seed)
    for _ in range(many):
        if dice.random() < 0.2:
            yield ("beside", tuple(random_plain(dice, dice.randrange(3)) for _ in range(dice.randrange(2, 4))))
        else:
            yield random_plain(dice, dice.randrange(most + 1))


def drawn_houses(seed, many, most=5):
    """Houses of all six words: those above, the samples, houses without wishes, and some as tables."""
    yield from SAMPLES + EMPTY
    for at, house in enumerate(random_houses(seed, many, most)):
        yield table_by_words(house) if at % 6 == 0 else house


def drawn_tellings(dice, size, many=2):
    """All 0, all equal, few worths with many ties, and worths of thirty figures."""
    yield (0,) * size
    yield (3,) * size
    for _ in range(many):
        yield tuple(dice.randrange(4) for _ in range(size))
        yield tuple(dice.choice((0, 1, 5, 6, 7, 40)) for _ in range(size))
    yield tuple(dice.choice((0, 10 ** 29, 10 ** 30 - 1, 10 ** 30)) for _ in range(size))


def wrong_tellings(size):
    """What is no tuple with a number for each of at least one wish."""
    good = (1,) * (size - 1)
    odd = [thing for thing in ODD_THINGS if not isinstance(thing, tuple)]
    shapes = [(), good, good + (1, 1), [1] * size, list(good), "1" * size]
    return odd + shapes + [good + (thing,) for thing in (True, False, None, -1, "1", (1,), [1])] \
        + [(thing,) + good for thing in (True, -1, None)]


def wrong_wishes(size):
    """What is no number below size."""
    return (True, False, None, -1, -size, size, size + 1, "0", "", (), (0,), [0], 10 ** 59)


def drawn_circle(dice, house, ends=(0, 1, 3, 4, 9)):
    """A circle of two to four persons, some perhaps without a wish, in this house."""
    size = size_by_words(house)
    people = dice.randrange(2, 5)
    stretches = tuple(tuple(sorted((dice.choice(ends), dice.choice(ends)))) for _ in range(size))
    return (house, people, tuple(dice.randrange(people) for _ in range(size)), stretches)


def drawn_circle_telling(dice, circle):
    return tuple(dice.randrange(low, high + 1) for low, high in circle[3])


TIED = (("limits", 2, (((0, 1), 1),)), ("limits", 3, (((0, 1, 2), 2),)), ("limits", 4, (((0, 1, 2, 3), 2), ((0, 1), 1))),
        ("limits", 5, (((0, 1, 2, 3, 4), 3), ((1, 3), 1))), ("slots", 2, ((0, 1), (0, 1), (0,), (1,))),
        ("slots", 3, ((0, 1), (1, 2), (0, 2), (0, 1, 2))), ("web", 3, ((0, 1), (1, 2), (0, 2), (0, 2))),
        ("web", 4, ((0, 1), (1, 2), (2, 3), (0, 3), (0, 2))), ("rows", 3, ((1, 0), (0, 1), (1, 1), (1, 2))),
        ("rows", 2, ((1, 0, 0), (0, 1, 0), (0, 0, 1), (1, 1, 0), (0, 1, 1), (1, 1, 1))),
        ("table", 3, (0, 1, 1, 1, 1, 1, 1, 1)), ("table", 4, (0, 1, 1, 1, 1, 2, 2, 2, 1, 2, 2, 2, 2, 2, 2, 2)),
        ("beside", (("limits", 2, (((0, 1), 1),)), ("web", 2, ((0, 1), (0, 1))))),
        ("beside", (("limits", 3, (((0, 1, 2), 1),)), ("rows", 5, ((2,), (3,))))))


def drawn_circles(seed, many, most=5, ends=(0, 1, 3, 4, 9)):
    """Circles of two to five persons in houses of all six words; many are in few pieces, some have two ends or one."""
    dice = random.Random(seed)
    for at, house in enumerate(drawn_houses(seed, many, most)):
        if at % 2 == 1:
            house = dice.choice(TIED)
        house, people, owners, stretches = drawn_circle(dice, house, ends)
        if at % 9 == 3:
            people = 5
        elif at % 3 > 0:
            people = dice.choice((2, 2, 3))
        owners = tuple(dice.randrange(people) for _ in owners)
        if at % 4 == 1:
            low = dice.choice(ends)
            stretches = ((low, low + dice.choice((0, 1, 10 ** 29))),) * len(owners)
        yield (house, people, owners, stretches)


def wrong_lots(size):
    """What is no lot of numbers below size."""
    return ODD_THINGS + ((size,), (0, size), (1, 0), (2, 1, 0), [0, 1], (0, True), (False, 1), "01", {0: 1})


def wrong_persons(people):
    """What is no person of so many."""
    return (True, False, None, -1, people, people + 1, "0", (), (0,), [0], 10 ** 59)


# What is no quotient: not in least terms, a bottom below 1, or no pair of integers.
WRONG_QUOTIENTS = ((2, 4), (0, 2), (1, 0), (0, 0), (1, -1), (-2, -1), [1, 2], (1,), (1, 2, 3), 1, 0, True, None, "12",
                   (True, 1), (1, True), (False, 1), (1, None), ((1, 1), 1), (3, 3))



def shapes_of(most, people=5):
    """All counts of two persons or more, up to so many, with up to most places."""
    found = []
    waiting = [(count,) for count in range(1, most + 1)]
    while waiting:
        counts = waiting.pop()
        if len(counts) > 1:
            found.append(counts)
        if len(counts) < people:
            waiting.extend(counts + (count,) for count in range(1, most // prod(counts) + 1))
    return sorted(found)


WIDE = ((4, 6), (6, 4), (2, 3, 4), (4, 3, 2), (3, 4, 2), (2, 2, 2, 3), (3, 2, 2, 2), (2, 3, 2, 2), (2, 12), (8, 3),
        (3, 3, 2), (4, 4), (5, 4), (2, 2, 2, 2), (2, 2, 6), (3, 3), (2, 2), (2, 2, 2), (2, 1, 2, 3), (2, 2, 2, 3, 1))


def even_worths(dice, counts, size):
    """Worths that are sums of functions blind to one person, drawn from numbers below size."""
    parts = []
    for person in range(len(counts)):
        choices = product(*[range(count) for at, count in enumerate(counts) if at != person])
        parts.append({choice: dice.randrange(-size, size) for choice in choices})
    return [sum(part[place[:at] + place[at + 1:]] for at, part in enumerate(parts))
            for place in product(*[range(count) for count in counts])]


def drawn_worths(dice, counts, kind):
    """Worths of one of eight kinds for a board with these counts."""
    many = prod(counts)
    if kind == 0:
        return [dice.randrange(-50, 50) for _ in range(many)]
    if kind == 1:
        return even_worths(dice, counts, 20)
    if kind == 2:
        return [worth + (dice.random() < 0.2) for worth in even_worths(dice, counts, 9)]
    if kind == 3:
        return [dice.choice((0, 0, 0, 1)) for _ in range(many)]
    if kind == 4:
        return [dice.randrange(-10 ** 30, 10 ** 30) for _ in range(many)]
    if kind == 5:
        return [dice.choice((-10 ** 40, 0, 10 ** 40)) for _ in range(many)]
    if kind == 6:
        return sorted(dice.randrange(9) for _ in range(many))
    return even_worths(dice, counts, 10 ** 29)


def drawn_boards(seed, many, shapes=WIDE):
    """Boards of these counts by turns, with worths of all kinds."""
    dice = random.Random(seed)
    for at in range(many):
        counts = shapes[at % len(shapes)]
        yield (counts, tuple(drawn_worths(dice, counts, dice.randrange(8))))


def drawn_quotient(dice):
    top, bottom = dice.choice(((dice.randrange(-9, 10), dice.randrange(1, 9)), (dice.randrange(-10 ** 40, 10 ** 40),
                              dice.randrange(1, 10 ** 40)), (0, 1), (1, 2)))
    return (top // gcd(top, bottom), bottom // gcd(top, bottom))


def drawn_tables(dice, counts):
    return tuple(tuple(drawn_quotient(dice) for _ in range(prod(counts) // count)) for count in counts)


def wrong_tables(counts):
    """What are no tables of boards with these counts, which have one person with a choice at least."""
    good = tuple(((1, 2),) * (prod(counts) // count) for count in counts)
    odd = tuple(thing for thing in ODD_THINGS if thing != good)
    more = (good[:-1], good + (good[0],), list(good), good[:-1] + (list(good[-1]),), good[:-1] + (good[-1] + ((1, 2),),),
            good[:-1] + (good[-1][:-1],), (((1, 2),),) + good)
    return odd + more + tuple(good[:-1] + (good[-1][:-1] + (thing,),) for thing in WRONG_QUOTIENTS)


def shuffled(dice, things):
    things = list(things)
    dice.shuffle(things)
    return tuple(things)


def one_pieces(people):
    """Houses in one piece of so many wishes."""
    found = [("limits", people, ((tuple(range(people)), cap),)) for cap in range(1, people)]
    found.append(("slots", people - 1, (tuple(range(people - 1)),) * people))
    found.append(("web", people, tuple((at, at + 1) for at in range(people - 1)) + ((0, people - 1),)))
    if people > 2:
        found.append(("rows", 5, ((1, 0), (0, 1)) + tuple((1, at + 1) for at in range(people - 2))))
        found.append(("table", 3, (0, 1, 1, 1, 1, 1, 1, 1)) if people == 3 else found[0])
    if people == 4:
        found.append(("limits", 4, (((0, 1, 2, 3), 2), ((0, 1), 1))))
        found.append(("web", 4, ((0, 1), (1, 2), (0, 2), (0, 2))))
    return found


def single_circles(seed, many, ends=(0, 1, 3, 4, 9)):
    """Circles whose full pieces are single, of two to five persons: a wish each, or twins, and pieces that are not full."""
    dice = random.Random(seed)
    for at in range(many):
        people = dice.choice((2, 2, 3, 3, 4, 5))
        house = dice.choice(one_pieces(people))
        owners = shuffled(dice, range(people))
        if at % 4 == 1:
            more = dice.randrange(3)
            house = dice.choice((("limits", people + more, ((tuple(range(people + more)), 1),)),
                                 ("web", 2, ((0, 1),) * (people + more)), ("slots", 1, ((0,),) * (people + more))))
            owners = shuffled(dice, owners + tuple(dice.randrange(people) for _ in range(more)))
        if at % 5 == 2:
            house = ("beside", (house, ("limits", 2, (((0, 1), 1),))))
            owners = owners + ((0, 0) if people == 2 else (people - 1, 1))
        if at % 5 == 3 and people == 2:
            house = ("beside", (dice.choice(one_pieces(2)), house))
            owners = dice.choice(((0, 1), (1, 0))) + owners
        stretches = tuple(tuple(sorted((dice.choice(ends), dice.choice(ends)))) for _ in owners)
        if at % 3 == 0:
            low = dice.choice(ends)
            stretches = ((low, low + dice.choice((0, 1, 4, 10 ** 29))),) * len(owners)
        yield (house, people, owners, stretches)


def random_units(dice, people):
    """Units as [10] says: sums of the smaller one of wants and seats, and of others' units."""
    units = [0] * 2 ** people
    for _ in range(dice.randrange(1, 4)):
        kind = dice.randrange(3)
        wants = [dice.randrange(4) for _ in range(people)]
        seats = dice.randrange(5)
        falling = sorted((dice.randrange(3) for _ in range(people)), reverse=True)
        for number in range(2 ** people):
            lot = [person for person in range(people) if number >> person & 1]
            if kind == 0:
                units[number] += min(seats, sum(wants[person] for person in lot))
            elif kind == 1:
                units[number] += sum(falling[:len(lot)])
            else:
                units[number] += sum(wants[person] for person in lot if person < 2)
    return tuple(units)


def drawn_pools(seed, many, ends=(0, 1, 3, 4, 9)):
    """Pools of two to five persons; some with one stretch for all, with stretches apart, or adding 0."""
    dice = random.Random(seed)
    for at in range(many):
        people = dice.choice((2, 2, 3, 3, 4, 5))
        units = random_units(dice, people) if at % 11 else (0,) * 2 ** people
        stretches = tuple(tuple(sorted((dice.choice(ends), dice.choice(ends)))) for _ in range(people))
        if at % 3 == 0:
            low = dice.choice(ends)
            stretches = ((low, low + dice.choice((0, 1, 4))),) * people
        if at % 7 == 1:
            stretches = ((0, 1),) + stretches[1:-1] + ((3, 4),)
        yield (units, stretches)


def drawn_odds(dice, circle, ends=False, most=64):
    """Odds of the circle; if ends, with ends as worths alone; with one worth alone where there would be too many."""
    every = sorted({end for stretch in circle[3] for end in stretch})
    many = 1
    odds = []
    for low, high in circle[3]:
        worths = [end for end in every if low <= end <= high]
        if not ends:
            worths = sorted({dice.randrange(low, high + 1) for _ in range(3)} | set(dice.sample(worths, 1)))
        picked = sorted(dice.sample(worths, dice.randrange(1, len(worths) + 1)))
        if many * len(picked) > most:
            picked = picked[:1]
        many *= len(picked)
        odds.append(tuple((worth, dice.choice((1, 1, 2, 3, 7, 10 ** 6))) for worth in picked))
    return tuple(odds)
