"""Gates: what a wish must be worth; and which wishes and lots are best."""

from someoneout.covers import with_wish
from someoneout.demands import need
from someoneout.grantrules import granted_lot, is_free_lot, is_house_telling, worth_of
from someoneout.houses import size_of
from someoneout.kinds import is_below, is_lot
from someoneout.rankrules import lot_rank


def gate_of(house, telling, wish):
    """The least number such that the others worth more do not cover the wish; None if it is barred."""
    need(is_house_telling(house, telling), "telling")
    need(is_below(size_of(house), wish), "wish")
    return gate_at(house, telling, wish)


def gate_at(house, telling, wish):
    """The gate, or None, by what is known to be a telling."""
    others = [other for other in range(len(telling)) if other != wish]
    # A least number can only be where the lot of those worth more changes.
    for gate in sorted(set([0] + [telling[other] for other in others])):
        above = tuple([other for other in others if telling[other] > gate])
        if lot_rank(house, with_wish(above, wish)) > lot_rank(house, above):
            return gate
    return None


def sure_of(house, telling):
    """The lot of the wishes that are in all best lots."""
    need(is_house_telling(house, telling), "telling")
    return tuple([wish for wish in range(len(telling)) if lead_of(house, telling, wish) > 0])


def possible_of(house, telling):
    """The lot of the wishes that are in some best lots."""
    need(is_house_telling(house, telling), "telling")
    return tuple([wish for wish in range(len(telling)) if lead_of(house, telling, wish) >= 0])


def lead_of(house, telling, wish):
    """What the wish is worth above its gate; below 0 if it is barred."""
    gate = gate_at(house, telling, wish)
    if gate is None:
        return -1
    return telling[wish] - gate


def is_best(house, telling, lot):
    """Whether the lot is free and worth most."""
    need(is_house_telling(house, telling), "telling")
    need(is_lot(size_of(house), lot), "lot")
    if not is_free_lot(house, lot):
        return False
    return worth_of(telling, lot) == worth_of(telling, granted_lot(house, telling))
