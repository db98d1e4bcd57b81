"""Papers that no ring crosses certain lots."""

from someoneout.demands import demand
from someoneout.houses import size_of
from someoneout.kinds import is_lot
from someoneout.rankrules import lot_rank


def lets_parting(house, thing):
    """How many lots part the wishes such that their ranks add up; InvalidPaper if they do not."""
    size = size_of(house)
    demand(isinstance(thing, tuple), "shape", -1)
    parted = []
    for at, lot in enumerate(thing):
        demand(is_lot(size, lot) and len(lot) > 0, "lot", at)
        demand(not any([wish in parted for wish in lot]), "twice", at)
        parted.extend(list(lot))
    demand(len(parted) == size, "left", -1)
    ranks = sum([lot_rank(house, lot) for lot in thing])
    demand(ranks == lot_rank(house, tuple(range(size))), "ranks", -1)
    return len(thing)
