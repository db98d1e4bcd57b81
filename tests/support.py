"""What several tests need: exact comparison, refusals, and houses to try."""

import random
import unittest

from someoneout.errors import NotUsable
from tests.oracles import size_by_words, table_by_words

SEAT = (("limits", 2, (((0, 1), 1),)), 2, (0, 1), ((0, 4), (0, 4)))
TRIO = (("limits", 3, (((0, 1, 2), 2),)), 3, (0, 1, 2), ((0, 4), (0, 4), (0, 4)))
PAIRS = (("limits", 4, (((0, 1), 1), ((2, 3), 1))), 4, (0, 1, 2, 3), ((0, 4), (0, 4), (0, 4), (0, 4)))

# What is nowhere a lot, a person, a house or any other thing with a name of its own.
ODD_THINGS = (True, False, None, -1, "", "0", "limits", [], [0], [()], (True,), (False,), (None,),
              ((),), (0, 0), (1, 0), (-1,), ([],), ("limits",), (0, (1,)), 10 ** 59, -10 ** 59)

LIMITS = ("limits", 6, (((0, 1, 2, 3), 2), ((0, 1), 1), ((4,), 0)))
SLOTS = ("slots", 4, ((0, 1), (0,), (1,), (), (2, 3), (0, 1)))
WEB = ("web", 4, ((0, 1), (1, 2), (0, 2), (2, 2), (0, 1), (2, 3)))
ROWS = ("rows", 3, ((1, 0), (0, 1), (1, 1), (2, 2), (0, 0)))
TABLE = ("table", 3, (0, 1, 1, 1, 0, 1, 1, 1))
BESIDE = ("beside", (("limits", 2, (((0, 1), 1),)), ("web", 2, ((0, 1), (0, 1))), ("rows", 2, ((1,),))))
SAMPLES = (LIMITS, SLOTS, WEB, ROWS, TABLE, BESIDE)

EMPTY = (("limits", 0, ()), ("slots", 0, ()), ("slots", 3, ()), ("web", 0, ()), ("rows", 7, ()),
         ("table", 0, (0,)), ("beside", (("limits", 0, ()), ("web", 5, ()))))


class Case(unittest.TestCase):
    """A test case that tells True from 1, and a list from a tuple."""

    def exact(self, given, wanted):
        self.assertEqual(repr(given), repr(wanted))

    def refused(self, error, fields, function, *args, **named):
        """The very error with just these fields."""
        with self.assertRaises(error) as caught:
            function(*args, **named)
        self.assertIs(caught.exception.__class__, error)
        self.exact(vars(caught.exception), fields)

    def not_usable(self, word, function, *args, **named):
        self.refused(NotUsable, {"word": word, "at": -1}, function, *args, **named)


def random_lot(dice, size):
    return tuple(wish for wish in range(size) if dice.random() < 0.5)


def random_limits(dice, size):
    """Lots that come by splitting lots, so that none cross."""
    lots = []
    waiting = [tuple(range(size))]
    while waiting:
        lot = waiting.pop()
        if lot and lot not in lots:
            if dice.random() < 0.7:
                lots.append(lot)
            part = tuple(wish for wish in lot if dice.random() < 0.5)
            if part and part != lot:
                waiting.append(part)
                waiting.append(tuple(wish for wish in lot if wish not in part))
    dice.shuffle(lots)
    return ("limits", size, tuple((lot, dice.randrange(4)) for lot in lots))


def random_plain(dice, size):
    """A house of a word other than "table" and "beside"."""
    word = dice.choice(("limits", "slots", "web", "rows"))
    if word == "limits":
        return random_limits(dice, size)
    if word == "slots":
        many = dice.randrange(5)
        return ("slots", many, tuple(random_lot(dice, many) for _ in range(size)))
    if word == "web":
        points = dice.randrange(1, 6)
        pairs = [sorted((dice.randrange(points), dice.randrange(points))) for _ in range(size)]
        return ("web", points, tuple(tuple(pair) for pair in pairs))
    prime = dice.choice((2, 3, 5))
    wide = dice.randrange(4)
    return ("rows", prime, tuple(tuple(dice.randrange(prime) for _ in range(wide)) for _ in range(size)))


def random_houses(seed, many, most=5):
    """Houses of all words but "table", drawn the same each time."""
    dice = random.Random(seed)
    for _ in range(many):
        if dice.random() < 0.2:
            yield ("beside", tuple(random_plain(dice, dice.randrange(3)) for _ in range(dice.randrange(2, 4))))
        else:
            yield random_plain(dice, dice.randrange(most + 1))


def drawn_houses(seed, many, most=5):
    """Houses of all six words: those above, the samples, houses without wishes, and some as tables."""
    yield from SAMPLES + EMPTY
    for at, house in enumerate(random_houses(seed, many, most)):
        yield table_by_words(house) if at % 6 == 0 else house


def drawn_tellings(dice, size, many=2):
    """All 0, all equal, few worths with many ties, and worths of thirty figures."""
    yield (0,) * size
    yield (3,) * size
    for _ in range(many):
        yield tuple(dice.randrange(4) for _ in range(size))
        yield tuple(dice.choice((0, 1, 5, 6, 7, 40)) for _ in range(size))
    yield tuple(dice.choice((0, 10 ** 29, 10 ** 30 - 1, 10 ** 30)) for _ in range(size))


def wrong_tellings(size):
    """What is no tuple with a number for each of at least one wish."""
    good = (1,) * (size - 1)
    odd = [thing for thing in ODD_THINGS if not isinstance(thing, tuple)]
    shapes = [(), good, good + (1, 1), [1] * size, list(good), "1" * size]
    return odd + shapes + [good + (thing,) for thing in (True, False, None, -1, "1", (1,), [1])] \
        + [(thing,) + good for thing in (True, -1, None)]


def wrong_wishes(size):
    """What is no number below size."""
    return (True, False, None, -1, -size, size, size + 1, "0", "", (), (0,), [0], 10 ** 59)


def drawn_circle(dice, house, ends=(0, 1, 3, 4, 9)):
    """A circle of two to four persons, some perhaps without a wish, in this house."""
    size = size_by_words(house)
    people = dice.randrange(2, 5)
    stretches = tuple(tuple(sorted((dice.choice(ends), dice.choice(ends)))) for _ in range(size))
    return (house, people, tuple(dice.randrange(people) for _ in range(size)), stretches)


def drawn_circle_telling(dice, circle):
    return tuple(dice.randrange(low, high + 1) for low, high in circle[3])
