"""The granted lot, the best worth, and the layers of a telling."""

from someoneout.demands import need
from someoneout.grantrules import granted_lot, is_house_telling, worth_of
from someoneout.kinds import is_lot


def granted(house, telling):
    """The base that comes by taking wishes by falling worth."""
    need(is_house_telling(house, telling), "telling")
    return granted_lot(house, telling)


def best_worth(house, telling):
    """The greatest worth of a free lot."""
    return worth_of(telling, granted(house, telling))


def lot_worth(telling, lot):
    """The worths of the lot's wishes, added up."""
    need(is_lot(len(telling), lot), "lot")
    return worth_of(telling, lot)


def layers_of(house, telling):
    """A pair for each worth above 0, ascending: it, and all wishes worth that or more."""
    need(is_house_telling(house, telling), "telling")
    heights = sorted(set([worth for worth in telling if worth > 0]))
    return tuple([(height, wishes_from(telling, height)) for height in heights])


def wishes_from(telling, height):
    """The lot of the wishes worth the height or more."""
    return tuple([wish for wish, worth in enumerate(telling) if worth >= height])
