"""Rings within lots: papers that a lot is not free."""

from someoneout.demands import demand, need
from someoneout.errors import InvalidPaper
from someoneout.grantrules import is_free_lot
from someoneout.houses import size_of
from someoneout.kinds import is_lot


def ring_in(house, lot):
    """Any ring within the lot, or None if it is free."""
    need(is_lot(size_of(house), lot), "lot")
    if is_free_lot(house, lot):
        return None
    ring = lot
    for wish in lot:
        rest = without_wish(ring, wish)
        if not is_free_lot(house, rest):
            ring = rest
    return ring


def without_wish(lot, wish):
    """The lot without the wish."""
    return tuple([other for other in lot if other != wish])


def spare_place(house, lot):
    """The first place of the lot without whose wish it is not free, or None."""
    for at, wish in enumerate(lot):
        if not is_free_lot(house, without_wish(lot, wish)):
            return at
    return None


def lets_ring(house, lot, thing):
    """How long the ring within the lot is; InvalidPaper if it is none."""
    size = size_of(house)
    need(is_lot(size, lot), "lot")
    demand(is_lot(size, thing), "shape", -1)
    demand(all([wish in lot for wish in thing]), "within", -1)
    demand(not is_free_lot(house, thing), "free", -1)
    spare = spare_place(house, thing)
    if spare is not None:
        raise InvalidPaper("part", spare)
    return len(thing)
