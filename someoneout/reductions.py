"""Twins and partners, and houses in which just one of them is left."""

from someoneout.housechanges import promised_house, refused_house, turned_house
from someoneout.houses import size_of
from someoneout.ranks import rank_table


def twin_lots(house):
    """The lots of wishes that are all twins, by their least wish."""
    ranks = rank_table(house)
    lots = []
    for wish in range(size_of(house)):
        if not any([wish in lot for lot in lots]):
            lots.append(twins_from(ranks, wish, size_of(house)))
    return tuple([lot for lot in lots if len(lot) > 1])


def twins_from(ranks, wish, size):
    """The wish and all later ones that are its twins."""
    later = [other for other in range(wish + 1, size) if are_twins(ranks, wish, other)]
    return (wish,) + tuple(later)


def are_twins(ranks, one, other):
    """Whether two wishes are a ring, by the ranks of all lots."""
    single = ranks[1 << one] == 1 and ranks[1 << other] == 1
    return single and ranks[(1 << one) + (1 << other)] == 1


def partner_lots(house):
    """The lots of wishes that are all partners, by their least wish."""
    # Each ring has both or neither exactly if the two are a ring of the turned house.
    return twin_lots(turned_house(house))


def all_but_least(lots):
    """The wishes of all the lots but the least of each."""
    wishes = []
    for lot in lots:
        wishes.extend(list(lot[1:]))
    return tuple(sorted(wishes))


def twins_refused(house):
    """The house with all twins but the least of each lot refused."""
    return refused_house(house, all_but_least(twin_lots(house)))


def partners_promised(house):
    """The house with all partners but the least of each lot promised."""
    return promised_house(house, all_but_least(partner_lots(house)))
