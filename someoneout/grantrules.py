"""Going through wishes and taking those that can be granted together; nothing is checked here.

All houses are matroids: to go by falling worth ends at a lot worth most, whatever free lot is
taken beforehand, and whatever wishes are left out.
"""

from someoneout.covers import with_wish
from someoneout.houses import size_of
from someoneout.kinds import is_number, is_tuple_of
from someoneout.rankrules import lot_rank


def is_house_telling(house, thing):
    """Whether any value is a tuple with a number for each wish of the house."""
    return is_tuple_of(size_of(house), thing) and all([is_number(worth) for worth in thing])


def is_free_lot(house, lot):
    """Whether the wishes of what is known to be a lot can be granted together."""
    return lot_rank(house, lot) == len(lot)


def filled(house, lot, wishes):
    """The free lot with each of the wishes, in their sequence, that leaves it free."""
    for wish in wishes:
        more = with_wish(lot, wish)
        if is_free_lot(house, more):
            lot = more
    return lot


def filled_by_worth(house, telling, lot, wishes):
    """The free lot with each of the wishes, by falling worth, that leaves it free."""
    falling = sorted([(-telling[wish], wish) for wish in wishes])
    return filled(house, lot, [wish for _, wish in falling])


def granted_among(house, telling, wishes):
    """The lot that is granted if there are these wishes only, with their numbers."""
    return filled_by_worth(house, telling, (), wishes)


def granted_lot(house, telling):
    """The granted lot."""
    return granted_among(house, telling, tuple(range(len(telling))))


def worth_of(telling, lot):
    """The worths of the lot's wishes, added up."""
    return sum([telling[wish] for wish in lot])


def without_lot(telling, lot):
    """All wishes that are told, but those of the lot."""
    return tuple([wish for wish in range(len(telling)) if wish not in lot])


def worth_by_ranks(ranks, telling):
    """The best worth, ranks being those of all lots by their numbers."""
    worth = 0
    number = 0
    for fall, wish in sorted([(-telling[wish], wish) for wish in range(len(telling))]):
        more = number + (1 << wish)
        # A wish is granted if those before it, granted or not, do not cover it.
        worth = worth - fall * (ranks[more] - ranks[number])
        number = more
    return worth
