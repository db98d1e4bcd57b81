"""Houses of limits, which may be many: the limits that bind, and the pieces by them."""

from someoneout.circlekinds import are_owners, is_people
from someoneout.covers import barred_of
from someoneout.demands import need
from someoneout.families import is_within
from someoneout.rankrules import limits_rank


def need_limits(house):
    """Refuse a house of another word."""
    need(house[0] == "limits", "house")


def binding_limits(house):
    """The lots of the outermost limits that bind, without barred wishes."""
    need_limits(house)
    barred = barred_of(house)
    lots = []
    for lot, cap in house[2]:
        unbarred = tuple([wish for wish in lot if wish not in barred])
        if 1 <= cap < limits_rank(limits_inside(house[2], lot), unbarred) and unbarred not in lots:
            lots.append(unbarred)
    return tuple(sorted([lot for lot in lots if not is_inside(lots, lot)]))


def limits_inside(rows, lot):
    """The limits whose lots lie within the lot and are not the lot."""
    return [row for row in rows if len(row[0]) < len(lot) and is_within(row[0], lot)]


def is_inside(lots, lot):
    """Whether a greater one of the lots has all wishes of the lot."""
    return any([len(lot) < len(other) and is_within(lot, other) for other in lots])


def limit_pieces(house):
    """All pieces of a house of limits, by their least wish."""
    pieces = list(binding_limits(house))
    for wish in range(house[1]):
        if not any([wish in piece for piece in pieces]):
            pieces.append((wish,))
    return tuple(sorted(pieces))


def limits_stay(house, people, owners):
    """Whether each piece of a house of limits leaves out a person."""
    need_limits(house)
    need(is_people(people), "people")
    need(are_owners(house[1], people, owners), "owners")
    return all([len(set([owners[wish] for wish in piece])) < people for piece in limit_pieces(house)])
