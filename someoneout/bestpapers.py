"""Papers that a lot is a best one: it has as many wishes of each layer as can be granted."""

from someoneout.demands import demand
from someoneout.grantrules import granted_lot, is_free_lot, worth_of
from someoneout.grants import layers_of
from someoneout.houses import size_of
from someoneout.kinds import is_integer, is_lot, is_tuple_of
from someoneout.rankrules import lot_rank


def best_paper(house, telling):
    """The granted lot, and the ranks of the layers."""
    ranks = tuple([lot_rank(house, layer) for _, layer in layers_of(house, telling)])
    return (granted_lot(house, telling), ranks)


def lets_best(house, telling, thing):
    """The best worth, if thing is a best lot with the ranks of the layers; else InvalidPaper."""
    layers = layers_of(house, telling)
    demand(is_tuple_of(2, thing), "shape", -1)
    lot, ranks = thing
    demand(is_lot(size_of(house), lot) and is_free_lot(house, lot), "lot", -1)
    demand(is_tuple_of(len(layers), ranks), "ranks", -1)
    for at, (_, layer) in enumerate(layers):
        rank = lot_rank(house, layer)
        demand(is_integer(ranks[at]) and ranks[at] == rank, "rank", at)
        demand(len([wish for wish in lot if wish in layer]) == rank, "few", at)
    return worth_of(telling, lot)
