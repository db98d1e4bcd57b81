"""The checker of boards."""

from someoneout.boardkinds import are_counts, place_count
from someoneout.demands import demand
from someoneout.kinds import is_integer, is_tuple_of


def lets_board(thing):
    """How many places the board has; InvalidPaper if it is none."""
    demand(is_tuple_of(2, thing), "shape", -1)
    counts, worths = thing
    demand(are_counts(counts), "counts", -1)
    many = place_count(counts)
    demand(is_tuple_of(many, worths), "worths", -1)
    for at in range(many):
        demand(is_integer(worths[at]), "worth", at)
    return many
