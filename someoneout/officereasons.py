"""Why an office refuses an event."""

from someoneout.circlekinds import is_people
from someoneout.demands import need
from someoneout.housechecker import wish_count
from someoneout.kinds import is_lot, is_tuple_of
from someoneout.officeevents import NUMBERS, is_event, is_round_house
from someoneout.settling import are_takers, full_by, suits_round, taken_of


def reason_of(people, rounds, settled, event):
    """The first reason that applies, or None."""
    need(is_people(people), "people")
    need(isinstance(rounds, tuple) and all([is_round(people, thing) for thing in rounds]), "rounds")
    need(is_lot(len(rounds), settled), "settled")
    return first_reason(people, rounds, settled, event)


def is_round(people, thing):
    """Whether any value is a round with persons below people."""
    if not is_tuple_of(2, thing) or not is_round_house(thing[0]):
        return False
    return are_takers(wish_count(thing[0]), people, thing[1])


def first_reason(people, rounds, settled, event):
    """The first reason, by what are known to be rounds."""
    if not is_event(event):
        return "shape"
    word = event[0]
    if word != "settle" and word not in NUMBERS:
        return None
    number = event[1]
    if number >= len(rounds):
        return "round"
    if number in settled:
        return "settled"
    house, takers = rounds[number]
    wish = wish_in(event)
    if wish is not None and wish >= len(takers):
        return "wish"
    if word == "settle":
        return settle_reason(people, house, takers, event[2])
    if word == "take":
        return take_reason(people, takers[wish], event[3])
    return taken_reason(takers[wish], event)


def wish_in(event):
    """The wish that the event tells of, or None."""
    if event[0] != "settle":
        return event[2]
    way = event[2]
    return None if isinstance(way, str) else way[1]


def take_reason(people, taker, person):
    """Why the person cannot take the wish."""
    if person >= people:
        return "person"
    return None if taker is None else "taken"


def taken_reason(taker, event):
    """Why nothing can be done to a wish that is to be taken already."""
    if taker is None:
        return "untaken"
    _, low, high, told = taker
    if event[0] == "narrow":
        least, most = event[3:]
        inside = low <= least and most <= high
        return None if inside and (told is None or least <= told <= most) else "stretch"
    if event[0] == "tell":
        return None if low <= event[3] <= high else "worth"
    return None


def settle_reason(people, house, takers, way):
    """Why the round cannot be settled in this way."""
    if not isinstance(way, str) and takers[way[1]] is None:
        return "untaken"
    if not all([takers[wish][3] is not None for wish in taken_of(takers)]):
        return "untold"
    if not suits_round(house, takers, way):
        return "barred"
    return None if full_by(people, house, takers, way) is None else "full"
