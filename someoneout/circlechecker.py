"""The checker of circles."""

from someoneout.circlekinds import is_people, is_stretch
from someoneout.demands import demand
from someoneout.housechecker import is_house, wish_count
from someoneout.kinds import is_below, is_tuple_of


def lets_circle(thing):
    """How many persons the circle has; InvalidPaper if it is none."""
    demand(is_tuple_of(4, thing), "shape", -1)
    house, people, owners, stretches = thing
    demand(is_house(house), "house", -1)
    demand(is_people(people), "people", -1)
    size = wish_count(house)
    demand(is_tuple_of(size, owners), "owners", -1)
    demand(is_tuple_of(size, stretches), "stretches", -1)
    for wish in range(size):
        demand(is_below(people, owners[wish]), "owner", wish)
        demand(is_stretch(stretches[wish]), "stretch", wish)
    return people
