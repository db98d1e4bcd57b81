"""What a lot covers, what is barred or forced, and all bases."""

from someoneout.demands import need
from someoneout.houses import size_of
from someoneout.kinds import is_lot, lot_by
from someoneout.rankrules import lot_rank
from someoneout.ranks import rank_table


def covered_by(house, lot):
    """All wishes that, put to the lot, do not raise its rank."""
    size = size_of(house)
    need(is_lot(size, lot), "lot")
    rank = lot_rank(house, lot)
    return tuple([wish for wish in range(size) if lot_rank(house, with_wish(lot, wish)) == rank])


def with_wish(lot, wish):
    """The lot with the wish put to it."""
    return tuple(sorted(set(lot + (wish,))))


def barred_of(house):
    """All wishes that () covers."""
    return covered_by(house, ())


def forced_of(house):
    """All wishes that are in each base: without one the rank falls."""
    wishes = range(size_of(house))
    rank = lot_rank(house, tuple(wishes))
    forced = []
    for wish in wishes:
        rest = tuple([other for other in wishes if other != wish])
        if lot_rank(house, rest) < rank:
            forced.append(wish)
    return tuple(forced)


def all_bases(house):
    """All free lots of the rank of all wishes, ascending."""
    ranks = rank_table(house)
    lots = [lot_by(number) for number in range(len(ranks)) if ranks[number] == ranks[-1]]
    return tuple(sorted([lot for lot in lots if len(lot) == ranks[-1]]))
