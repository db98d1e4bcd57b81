"""The numbers of what comes of a house that is taken apart."""

from someoneout.demands import need
from someoneout.grantrules import is_free_lot
from someoneout.housechanges import promised_house, refused_house
from someoneout.houses import size_of
from someoneout.kinds import is_below
from someoneout.pieces import pieces_of
from someoneout.sums import number_in, number_of


def taken_apart(house, wish):
    """The numbers of the house with the wish refused, and with it promised."""
    # What is barred cannot be promised.
    need(is_below(size_of(house), wish) and is_free_lot(house, (wish,)), "wish")
    return (number_of(refused_house(house, (wish,))), number_of(promised_house(house, (wish,))))


def piece_numbers(house):
    """Each piece, and the number of the house kept to it."""
    return tuple([(piece, number_in(house, piece)) for piece in pieces_of(house)])
