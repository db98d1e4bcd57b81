"""What heals a circle that does not stay: wishes refused or promised, and somebody who joins."""

from someoneout.circlekinds import are_stretches
from someoneout.demands import need
from someoneout.housechanges import promised_house, refused_house
from someoneout.housechecker import is_house, wish_count
from someoneout.kinds import is_below, lots_within
from someoneout.leavings import stays
from someoneout.rankrules import lot_rank

REFUSE = "refuse"
PROMISE = "promise"


def is_deed(thing):
    """Whether any value is one of the two deeds."""
    return thing in (REFUSE, PROMISE)


def is_barred(house, wish):
    """Whether what is known to be a wish is covered by ()."""
    return lot_rank(house, (wish,)) == 0


def can_be_done(house, wish, thing):
    """Whether any value is a deed that can be done to the wish."""
    return is_deed(thing) and not (thing == PROMISE and is_barred(house, wish))


def changed_circle(circle, wish, deed):
    """The circle of the other wishes, with the wish refused or promised."""
    need(is_below(len(circle[2]), wish), "wish")
    need(can_be_done(circle[0], wish, deed), "deed")
    return circle_after(circle, wish, deed)


def circle_after(circle, wish, deed):
    """The circle after what is known to be a deed that can be done."""
    house, people, owners, stretches = circle
    left = promised_house(house, (wish,)) if deed == PROMISE else refused_house(house, (wish,))
    return (left, people, owners[:wish] + owners[wish + 1:], stretches[:wish] + stretches[wish + 1:])


def healing_wishes(circle, deed):
    """The lot of the wishes with which the changed circle stays."""
    need(is_deed(deed), "deed")
    wishes = [wish for wish in range(len(circle[2])) if can_be_done(circle[0], wish, deed)]
    return tuple([wish for wish in wishes if stays(circle_after(circle, wish, deed))])


def joined_circle(circle, house, stretches):
    """The circle in a house with further wishes, which a new last person owns."""
    old, people, owners, known = circle
    need(is_house(house) and begins_with(house, old), "house")
    more = wish_count(house) - len(owners)
    need(are_stretches(more, stretches), "stretches")
    return (house, people + 1, owners + (people,) * more, known + stretches)


def begins_with(house, old):
    """Whether the old house's wishes are the first ones of the house, with the same ranks."""
    size = wish_count(old)
    if wish_count(house) < size:
        return False
    lots = lots_within(tuple(range(size)))
    return all([lot_rank(house, lot) == lot_rank(old, lot) for lot in lots])
