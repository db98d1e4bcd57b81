"""Rounds of an office, and how they are settled."""

from someoneout.circlekinds import is_people, is_stretch
from someoneout.circles import is_in
from someoneout.demands import need
from someoneout.errors import Full
from someoneout.grants import granted
from someoneout.handing import handed_row
from someoneout.healing import PROMISE, can_be_done, circle_after
from someoneout.housechanges import kept_house
from someoneout.housechecker import wish_count
from someoneout.kinds import is_below, is_number, is_tuple_of
from someoneout.leavings import full_pieces
from someoneout.officeevents import MOST_WISHES, is_round_house, is_way
from someoneout.others import loss_row


def is_taker(thing):
    """Whether any value is None, or a person with a stretch, and None or a worth in it."""
    if thing is None:
        return True
    if not is_tuple_of(4, thing) or not is_number(thing[0]) or not is_stretch(thing[1:3]):
        return False
    return thing[3] is None or is_in(thing[1:3], thing[3])


def are_takers(size, people, thing):
    """Whether any value is a tuple with a taker below people, or None, for each wish."""
    if not is_tuple_of(size, thing) or not all([is_taker(taker) for taker in thing]):
        return False
    return all([taker is None or taker[0] < people for taker in thing])


def need_round(people, house, takers):
    """Refuse what are no persons, then what is no house of a round, then what are not its takers."""
    need(is_people(people), "people")
    need(is_round_house(house), "house")
    need(are_takers(wish_count(house), people, takers), "takers")


def taken_lot(takers):
    """The lot of the taken wishes."""
    need(isinstance(takers, tuple) and 1 <= len(takers) <= MOST_WISHES, "takers")
    need(all([is_taker(taker) for taker in takers]), "takers")
    return taken_of(takers)


def taken_of(takers):
    """The lot of the taken wishes, by what are known to be takers."""
    return tuple([wish for wish, taker in enumerate(takers) if taker is not None])


def round_circle(people, house, takers):
    """The circle of the taken wishes."""
    need_round(people, house, takers)
    return circle_of(people, house, takers)


def circle_of(people, house, takers):
    """The circle of the taken wishes of what is known to be a round."""
    lot = taken_of(takers)
    owners = tuple([takers[wish][0] for wish in lot])
    return (kept_house(house, lot), people, owners, tuple([takers[wish][1:3] for wish in lot]))


def settle_by(people, house, takers, way):
    """The granted lot, the payments and the till; Full if the way leaves nobody to take them."""
    need_round(people, house, takers)
    need(all([takers[wish][3] is not None for wish in taken_of(takers)]), "takers")
    need(is_way(way) and suits_round(house, takers, way), "way")
    lot = full_by(people, house, takers, way)
    if lot is not None:
        raise Full(None, lot)
    circle, wishes = settled_circle(people, house, takers, way)
    telling = tuple([takers[wish][3] for wish in wishes])
    payments = loss_row(circle, telling) if way == "others" else handed_row(circle, telling)
    lot = named(wishes, granted(circle[0], telling))
    if way[0] == PROMISE:
        lot = tuple(sorted(lot + (way[1],)))
    return (lot, payments, sum(payments))


def suits_round(house, takers, way):
    """Whether the way's wish, if it has one, is taken and can be refused, or promised."""
    if isinstance(way, str):
        return True
    deed, wish = way
    return is_below(len(takers), wish) and takers[wish] is not None and can_be_done(house, wish, deed)


def settled_circle(people, house, takers, way):
    """The circle that is settled, and the round's numbers of its wishes."""
    circle = circle_of(people, house, takers)
    wishes = taken_of(takers)
    if isinstance(way, str):
        return (circle, wishes)
    at = wishes.index(way[1])
    return (circle_after(circle, at, way[0]), wishes[:at] + wishes[at + 1:])


def full_by(people, house, takers, way):
    """The first full piece that keeps the way from settling the round, by the round's numbers, or None."""
    circle, wishes = settled_circle(people, house, takers, way)
    pieces = full_pieces(circle)
    if way == "others" or len(pieces) == 0:
        return None
    return named(wishes, pieces[0])


def named(wishes, lot):
    """The lot by the numbers that its wishes have elsewhere."""
    return tuple([wishes[at] for at in lot])
