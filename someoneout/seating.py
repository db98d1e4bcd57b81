"""Seats for the wishes of a lot, or a crowd within it that has too few slots."""

from someoneout.demands import demand, need
from someoneout.errors import Crowded
from someoneout.houses import size_of
from someoneout.kinds import is_integer, is_lot, is_tuple_of
from someoneout.rankrules import seat_one


def need_slots(house, lot):
    """Refuse a house of another word, then what is no lot of its wishes."""
    need(house[0] == "slots", "house")
    need(is_lot(size_of(house), lot), "lot")


def seated(house, lot):
    """Any pairs of each wish of the lot and its own slot, by the wishes; Crowded if there are none."""
    need_slots(house, lot)
    sitting = {}
    for wish in lot:
        tried = {}
        if not seat_one(house[2], wish, sitting, tried):
            # All slots that suit those who sit in the tried ones were tried as well.
            raise Crowded(tuple(sorted([wish] + [sitting[slot] for slot in tried])))
    return tuple(sorted([(wish, slot) for slot, wish in sitting.items()]))


def lets_seats(house, lot, thing):
    """How many pairs there are; InvalidPaper if they do not seat the lot."""
    need_slots(house, lot)
    demand(is_tuple_of(len(lot), thing), "shape", -1)
    taken = []
    for at, wish in enumerate(lot):
        demand(is_seat(house, wish, thing[at]), "pair", at)
        slot = thing[at][1]
        demand(slot not in taken, "twice", at)
        taken.append(slot)
    return len(thing)


def is_seat(house, wish, thing):
    """Whether any value is a pair of the wish and a slot that suits it."""
    # True is not 1.
    if not is_tuple_of(2, thing) or not is_integer(thing[0]) or not is_integer(thing[1]):
        return False
    return thing[0] == wish and thing[1] in house[2][wish]


def lets_crowd(house, lot, thing):
    """How many slots suit a wish of the crowd; InvalidPaper if it is none within the lot."""
    need_slots(house, lot)
    demand(is_lot(size_of(house), thing), "shape", -1)
    demand(all([wish in lot for wish in thing]), "within", -1)
    slots = []
    for wish in thing:
        slots.extend(list(house[2][wish]))
    many = len(set(slots))
    demand(len(thing) > many, "enough", -1)
    return many
