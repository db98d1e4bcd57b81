"""What an event that is not refused makes of an office.

What an office knows is a tuple: how many persons there are, the rounds, for each round the lot
granted when it was settled or None, the accounts, and the till.
"""

from someoneout.housechecker import wish_count
from someoneout.settling import settle_by


def begun(people):
    """What an office knows when it begins."""
    return (people, (), (), (0,) * people, 0)


def settled_numbers(grants):
    """The lot of the numbers of the settled rounds."""
    return tuple([number for number, lot in enumerate(grants) if lot is not None])


def put_in(row, at, thing):
    """The tuple with the thing at this place."""
    return row[:at] + (thing,) + row[at + 1:]


def after_event(known, event):
    """What the office knows behind the event, and what the event gives."""
    people, rounds, grants, accounts, till = known
    word = event[0]
    if word == "day":
        return (known, None)
    if word == "person":
        return ((people + 1, rounds, grants, accounts + (0,), till), None)
    if word == "house":
        takers = (None,) * wish_count(event[1])
        return ((people, rounds + ((event[1], takers),), grants + (None,), accounts, till), None)
    number = event[1]
    house, takers = rounds[number]
    if word == "settle":
        given = settle_by(people, house, takers, event[2])
        lot, payments, more = given
        left = tuple([account - payment for account, payment in zip(accounts, payments)])
        return ((people, rounds, put_in(grants, number, lot), left, till + more), given)
    fresh = put_in(takers, event[2], taker_after(takers[event[2]], event))
    return ((people, put_in(rounds, number, (house, fresh)), grants, accounts, till), None)


def taker_after(taker, event):
    """Who takes the wish behind the event, or None."""
    if event[0] == "take":
        return event[3:] + (None,)
    if event[0] == "drop":
        return None
    if event[0] == "narrow":
        return (taker[0],) + event[3:] + (taker[3],)
    return taker[:3] + (event[3],)
