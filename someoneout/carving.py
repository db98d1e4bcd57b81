"""Carvings: what is promised and what is refused so that a lot is left in one piece."""

from someoneout.demands import demand, need
from someoneout.errors import Apart
from someoneout.grantrules import is_free_lot
from someoneout.housechanges import as_table, left_table, others_than
from someoneout.houses import size_of
from someoneout.kinds import is_lot, is_tuple_of
from someoneout.pieces import is_one_piece, pieces_of


def need_some(house, lot):
    """Refuse what is no lot of wishes, and ()."""
    need(is_lot(size_of(house), lot) and len(lot) > 0, "lot")


def carved(house, lot):
    """Any carving; Apart with the piece of wish 0 if there are several pieces."""
    need_some(house, lot)
    pieces = pieces_of(house)
    if len(pieces) > 1:
        raise Apart(pieces[0])
    table = as_table(house)
    promised = ()
    refused = ()
    # Of a house in one piece each wish can be promised or refused so that it stays one.
    for wish in others_than(house, lot):
        if is_left_whole(table, promised, refused + (wish,)):
            refused = refused + (wish,)
        else:
            promised = promised + (wish,)
    return (promised, refused)


def is_left_whole(house, promised, refused):
    """Whether what is left is in one piece, promised being a free lot."""
    left = others_than(house, promised + refused)
    return is_one_piece(left_table(house, promised, left))


def lets_carving(house, lot, thing):
    """How many wishes are promised; InvalidPaper if it is no carving."""
    need_some(house, lot)
    size = size_of(house)
    shaped = is_tuple_of(2, thing) and is_lot(size, thing[0]) and is_lot(size, thing[1])
    demand(shaped, "shape", -1)
    promised, refused = thing
    demand(tuple(sorted(promised + refused)) == others_than(house, lot), "parts", -1)
    demand(is_free_lot(house, promised), "free", -1)
    demand(is_left_whole(house, promised, refused), "apart", -1)
    return len(promised)
