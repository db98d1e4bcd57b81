"""Granted units of a pool, and their worth.

Units of lots of persons go as ranks of lots of wishes do, so that to go by falling worth ends at what is worth most.
"""

from someoneout.circles import are_in
from someoneout.demands import need
from someoneout.grantrules import worth_by_ranks
from someoneout.kinds import is_number, is_tuple_of, lot_by


def granted_units(pool, telling):
    """What each person gets: by falling worth, what they add to those before them."""
    units, stretches = pool
    need(are_in(stretches, telling), "telling")
    got = [0] * len(stretches)
    number = 0
    for _, person in sorted([(-worth, person) for person, worth in enumerate(telling)]):
        more = number + (1 << person)
        got[person] = units[more] - units[number]
        number = more
    return tuple(got)


def pool_worth(pool, telling):
    """The best worth."""
    units, stretches = pool
    need(are_in(stretches, telling), "telling")
    return worth_by_ranks(units, telling)


def units_fit(pool, thing):
    """Whether any value has a number for each person, so that no lot of persons has more than its units."""
    units, stretches = pool
    if not is_tuple_of(len(stretches), thing) or not all([is_number(got) for got in thing]):
        return False
    totals = [sum([thing[person] for person in lot_by(number)]) for number in range(len(units))]
    return all([total <= unit for total, unit in zip(totals, units)])
