"""Houses that come from a house: all of them tables."""

from someoneout.demands import need
from someoneout.houses import size_of
from someoneout.kinds import is_lot, is_order, lot_by, lot_number, lots_within
from someoneout.rankrules import lot_rank
from someoneout.ranks import rank_table


def as_table(house):
    """The table house with the same free lots."""
    return ("table", size_of(house), rank_table(house))


def others_than(house, lot):
    """The lot of all wishes that are not in the lot."""
    return tuple([wish for wish in range(size_of(house)) if wish not in lot])


def numbers_within(lot):
    """The numbers of all lots within the lot, by the numbers they get if the lot is kept."""
    return [lot_number(part) for part in lots_within(lot)]


def left_table(house, promised, left):
    """The table of the wishes of the lot left, a free lot of other ones being promised."""
    ranks = rank_table(house)
    before = lot_number(promised)
    more = [ranks[number + before] - ranks[before] for number in numbers_within(left)]
    return ("table", len(left), tuple(more))


def refused_house(house, lot):
    """The house kept to all wishes that are not in the lot."""
    need(is_lot(size_of(house), lot), "lot")
    return left_table(house, (), others_than(house, lot))


def kept_house(house, lot):
    """The house that has just the wishes of the lot."""
    need(is_lot(size_of(house), lot), "lot")
    return left_table(house, (), lot)


def promised_house(house, lot):
    """The house of the other wishes, the free lot being granted in any case."""
    need(is_lot(size_of(house), lot) and lot_rank(house, lot) == len(lot), "lot")
    return left_table(house, lot, others_than(house, lot))


def renamed_house(house, order):
    """The house in which wish i has the number order[i]."""
    size = size_of(house)
    need(is_order(size, order), "order")
    ranks = rank_table(house)
    renamed = [0] * len(ranks)
    for number in range(len(ranks)):
        renamed[sum([1 << order[wish] for wish in lot_by(number)])] = ranks[number]
    return ("table", size, tuple(renamed))


def turned_house(house):
    """The house whose bases are what the bases of this one leave out."""
    ranks = rank_table(house)
    turned = []
    for number in range(len(ranks)):
        # All numbers of lots are below len(ranks), so that this takes off just the wishes.
        rest = len(ranks) - 1 - number
        turned.append(len(lot_by(number)) + ranks[rest] - ranks[-1])
    return ("table", size_of(house), tuple(turned))
