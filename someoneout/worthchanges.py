"""What comes of another worth of a wish, and of wishes that are refused or granted in any case."""

from someoneout.demands import need
from someoneout.gates import gate_of
from someoneout.grantrules import (filled_by_worth, granted_among, granted_lot, is_free_lot, is_house_telling,
                                   without_lot, worth_of)
from someoneout.houses import size_of
from someoneout.kinds import is_below, is_lot, is_number


def put_worth(telling, wish, worth):
    """The telling with the worth in the place of the wish."""
    need(is_below(len(telling), wish), "wish")
    need(is_number(worth), "worth")
    return telling[:wish] + (worth,) + telling[wish + 1:]


def change_of(house, telling, wish, worth):
    """The lots of what is no longer granted, and of what comes to be, by the other worth."""
    need(is_house_telling(house, telling), "telling")
    # This refuses what is no wish and no worth, too.
    before = granted_lot(house, put_worth(telling, wish, worth))
    now = granted_lot(house, telling)
    return (lot_less(now, before), lot_less(before, now))


def lot_less(lot, other):
    """The wishes of the lot that are not in the other one."""
    return tuple([wish for wish in lot if wish not in other])


def worth_line(house, telling, wish):
    """The best worth if the wish were worth 0, and its gate."""
    # This refuses what is no telling and no wish, too.
    gate = gate_of(house, telling, wish)
    nothing = put_worth(telling, wish, 0)
    return (worth_of(nothing, granted_lot(house, nothing)), gate)


def worth_without(house, telling, lot):
    """The best worth if the wishes of the lot are refused."""
    need(is_house_telling(house, telling), "telling")
    need(is_lot(size_of(house), lot), "lot")
    return worth_of(telling, granted_among(house, telling, without_lot(telling, lot)))


def worth_with(house, telling, lot):
    """The greatest worth of a free lot that has all wishes of the lot."""
    need(is_house_telling(house, telling), "telling")
    need(is_lot(size_of(house), lot) and is_free_lot(house, lot), "lot")
    return worth_of(telling, filled_by_worth(house, telling, lot, without_lot(telling, lot)))
