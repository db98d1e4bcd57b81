"""Rings of a house, and cuts of its bases."""

from someoneout.covers import with_wish
from someoneout.demands import need
from someoneout.grantrules import is_free_lot
from someoneout.houses import size_of
from someoneout.kinds import is_below, is_integer, is_lot, lot_by
from someoneout.rankrules import lot_rank
from someoneout.ranks import rank_table
from someoneout.ringpapers import spare_place, without_wish


def is_ring(house, thing):
    """Whether any value is a lot that is not free, while each smaller one within it is."""
    if not is_lot(size_of(house), thing) or is_free_lot(house, thing):
        return False
    return spare_place(house, thing) is None


def all_rings(house):
    """All rings, ascending."""
    ranks = rank_table(house)
    rings = [lot_by(number) for number in range(len(ranks)) if is_ring_number(ranks, number)]
    return tuple(sorted(rings))


def is_ring_number(ranks, number):
    """Whether the lot with this number is a ring, by the ranks of all lots."""
    lot = lot_by(number)
    if ranks[number] == len(lot):
        return False
    return all([ranks[number - (1 << wish)] == len(lot) - 1 for wish in lot])


def ring_by(house, lot, wish):
    """The ring of the wish with the free lot, or None if both together are free."""
    size = size_of(house)
    need(is_lot(size, lot) and is_free_lot(house, lot), "lot")
    need(is_below(size, wish) and wish not in lot, "wish")
    return ring_with(house, lot, wish)


def ring_with(house, lot, wish):
    """The ring of a wish with what is known to be a free lot without it, or None."""
    both = with_wish(lot, wish)
    if is_free_lot(house, both):
        return None
    # There is just one ring: what cannot be left out of it makes the rest free.
    return tuple([other for other in both if is_free_lot(house, without_wish(both, other))])


def cut_by(house, base, wish):
    """The lot of all wishes that can be put in the place of the wish of the base."""
    size = size_of(house)
    need(is_base(house, base), "base")
    need(is_integer(wish) and wish in base, "wish")
    rest = without_wish(base, wish)
    others = [other for other in range(size) if other not in rest]
    return tuple([other for other in others if is_free_lot(house, with_wish(rest, other))])


def is_base(house, thing):
    """Whether any value is a free lot of the rank of all wishes."""
    size = size_of(house)
    if not is_lot(size, thing) or not is_free_lot(house, thing):
        return False
    return len(thing) == lot_rank(house, tuple(range(size)))
