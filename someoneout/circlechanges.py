"""Circles that come from a circle."""

from someoneout.circles import is_circle, is_in
from someoneout.demands import need
from someoneout.housechanges import kept_house
from someoneout.houses import beside
from someoneout.kinds import is_below, is_integer


def finer(circle, many):
    """The circle with each low and high times many."""
    need(is_integer(many) and many >= 1, "many")
    house, people, owners, stretches = circle
    return (house, people, owners, tuple([(low * many, high * many) for low, high in stretches]))


def kept_circle(circle, lot):
    """The circle with the wishes of the lot alone, and all persons."""
    house, people, owners, stretches = circle
    # This refuses what is no lot of the wishes, too.
    kept = kept_house(house, lot)
    return (kept, people, tuple([owners[wish] for wish in lot]), tuple([stretches[wish] for wish in lot]))


def narrowed(circle, wish, low, high):
    """The circle with a stretch of the wish that lies within the old one."""
    house, people, owners, stretches = circle
    need(is_below(len(owners), wish), "wish")
    last = stretches[wish][1]
    need(is_in(stretches[wish], low), "low")
    need(is_in((low, last), high), "high")
    return (house, people, owners, stretches[:wish] + ((low, high),) + stretches[wish + 1:])


def beside_circles(circle, other):
    """The circle with the wishes of the other one behind its own."""
    need(is_circle(other) and other[1] == circle[1], "other")
    house, people, owners, stretches = circle
    return (beside(house, other[0]), people, owners + other[2], stretches + other[3])
