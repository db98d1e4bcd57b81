"""Heirs: who is granted in the place of a wish that is refused."""

from someoneout.demands import need
from someoneout.grantrules import granted_among, granted_lot, is_house_telling, without_lot
from someoneout.kinds import is_integer


def heir_of(house, telling, wish):
    """The wish that is granted if this one is refused, but not otherwise; or None."""
    need(is_house_telling(house, telling), "telling")
    lot = granted_lot(house, telling)
    # True is not 1.
    need(is_integer(wish) and wish in lot, "wish")
    return heir_in(house, telling, lot, wish)


def heir_in(house, telling, lot, wish):
    """The heir, by what is known to be the granted lot."""
    for other in granted_among(house, telling, without_lot(telling, (wish,))):
        if other not in lot:
            return other
    return None


def heirs_of(house, telling):
    """A pair of each granted wish and its heir or None."""
    need(is_house_telling(house, telling), "telling")
    lot = granted_lot(house, telling)
    return tuple([(wish, heir_in(house, telling, lot, wish)) for wish in lot])
