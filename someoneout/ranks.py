"""Ranks of lots, and which lots are free."""

from someoneout.demands import need
from someoneout.houses import size_of
from someoneout.kinds import is_lot, lot_by
from someoneout.rankrules import lot_rank


def rank_of(house, lot):
    """The greatest length of a free lot within the lot."""
    need(is_lot(size_of(house), lot), "lot")
    return lot_rank(house, lot)


def is_free(house, lot):
    """Whether the wishes of the lot can be granted together."""
    return rank_of(house, lot) == len(lot)


def rank_table(house):
    """The ranks of all lots, by their numbers."""
    return tuple([lot_rank(house, lot_by(number)) for number in range(1 << size_of(house))])
