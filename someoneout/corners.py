"""Corner differences: the best worth over all corners between two tellings of a house."""

from someoneout.demands import need
from someoneout.grantrules import is_house_telling, worth_by_ranks
from someoneout.houses import size_of
from someoneout.kinds import is_number
from someoneout.ranks import rank_table
from someoneout.signs import mixed_total, moved


def corner_difference(house, here, there):
    """The best worths with the wishes of each lot as in there; the sign changes for each other wish."""
    need(is_house_telling(house, here), "here")
    need(is_house_telling(house, there), "there")
    return corner_total(house, here, there)


def corner_total(house, here, there):
    """The corner difference, by what are known to be tellings."""
    ranks = rank_table(house)
    wishes = tuple(range(size_of(house)))
    tellings = [moved(wishes, here, there, number) for number in range(len(ranks))]
    return mixed_total([worth_by_ranks(ranks, telling) for telling in tellings])


def level_difference(house, low, high):
    """The corner difference if all wishes have the one number here, the other one there."""
    need(is_number(low), "low")
    need(is_number(high), "high")
    size = size_of(house)
    return corner_total(house, (low,) * size, (high,) * size)
