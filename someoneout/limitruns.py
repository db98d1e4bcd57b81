"""Signed counts of lots by their ranks; for houses of limits, which may be many, limit by limit."""

from math import comb

from someoneout.demands import need
from someoneout.kinds import is_number, lot_by
from someoneout.limitpieces import need_limits
from someoneout.ranks import rank_table


def signed_ranks(house):
    """For each rank the lots that have it: 1 each, with its sign changed for each wish."""
    ranks = rank_table(house)
    totals = [0] * (ranks[-1] + 1)
    for number, rank in enumerate(ranks):
        totals[rank] += -1 if len(lot_by(number)) & 1 else 1
    return tuple(totals)


def limits_signed(house):
    """The same for a house of limits."""
    need_limits(house)
    blocks = [((wish,), [1, -1]) for wish in range(house[1])]
    for _, lot, cap in sorted([(len(lot), lot, cap) for lot, cap in house[2]]):
        # No two limits cross: each block lies within the lot or beside it.
        inside = [totals for block, totals in blocks if block[0] in lot]
        outside = [(block, totals) for block, totals in blocks if block[0] not in lot]
        blocks = outside + [(lot, capped(product_of(inside), cap))]
    return tuple(product_of([totals for _, totals in blocks]))


def product_of(parts):
    """The counts of lots put together from lots of each part: their ranks add up."""
    product = [1]
    for part in parts:
        product = product_by(product, part)
    return product


def product_by(one, other):
    """The counts of two parts put together."""
    totals = [0] * (len(one) + len(other) - 1)
    for rank, many in enumerate(one):
        for more, times in enumerate(other):
            totals[rank + more] += many * times
    return totals


def capped(totals, cap):
    """The counts if no rank is above the cap."""
    if len(totals) <= cap + 1:
        return totals
    return totals[:cap] + [sum(totals[cap:])]


def limits_number(house):
    """The number of a house of limits."""
    return abs(sum([rank * many for rank, many in enumerate(limits_signed(house))]))


def seats_number(size, seats):
    """The number of the house in which so many of all wishes can be granted."""
    need(is_number(seats), "seats")
    if size == 1:
        return min(seats, 1)
    if seats == 0 or seats >= size:
        return 0
    # The lean bases, by the usual order: wish 0 and any others but wish 1.
    return comb(size - 2, seats - 1)
