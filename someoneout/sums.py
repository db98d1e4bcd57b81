"""The signed sum of a house, and its number."""

from someoneout.housechanges import kept_house
from someoneout.ranks import rank_table
from someoneout.signs import signed_total


def signed_sum(house):
    """The ranks of all lots, added up; the sign changes for each wish of the lot."""
    return signed_total(rank_table(house))


def number_of(house):
    """The signed sum without its sign."""
    return abs(signed_sum(house))


def number_in(house, lot):
    """The number of the house kept to the lot."""
    # This refuses what is no lot of wishes, too.
    return number_of(kept_house(house, lot))
