"""Whether any value is a pool, and the first thing that is wrong if it is none."""

from someoneout.circlekinds import is_stretch
from someoneout.demands import demand
from someoneout.errors import InvalidPaper
from someoneout.kinds import is_number, is_tuple_of, lot_by

FEWEST = 2
MOST = 12


def is_pool(thing):
    """Whether any value is a pool."""
    try:
        lets_pool(thing)
    except InvalidPaper:
        return False
    return True


def lets_pool(thing):
    """How many persons the pool has; InvalidPaper if it is none."""
    demand(is_tuple_of(2, thing), "shape", -1)
    units, stretches = thing
    demand(isinstance(stretches, tuple) and FEWEST <= len(stretches) <= MOST, "stretches", -1)
    for person, stretch in enumerate(stretches):
        demand(is_stretch(stretch), "stretch", person)
    demand(is_tuple_of(1 << len(stretches), units), "units", -1)
    for number in range(len(units)):
        demand(is_unit(units, number), "unit", number)
    return len(stretches)


def is_unit(units, number):
    """Whether a lot's units go with those of the lots within it, which are in order."""
    unit = units[number]
    if not is_number(unit):
        return False
    if number == 0:
        return unit == 0
    bits = [1 << person for person in lot_by(number)]
    for one in bits:
        if unit < units[number - one]:
            return False
        for other in bits:
            if other < one and adds_more(units, number, one, other):
                return False
    return True


def adds_more(units, number, one, other):
    """Whether a person adds more to the rest of the lot with the other person than to that without."""
    rest = units[number - one - other]
    return units[number] - units[number - one] > units[number - other] - rest
