"""Terms: ranks and best worths as sums of least worths."""

from someoneout.demands import need
from someoneout.housechanges import kept_house
from someoneout.houses import size_of
from someoneout.kinds import is_integer, is_lot, is_number, is_tuple_of, lot_by, lot_number
from someoneout.ranks import rank_table
from someoneout.signs import mixed_total


def term_of(house, lot):
    """The ranks of all lots within the lot; the sign changes for each wish that is left out."""
    # This refuses what is no lot of wishes, too.
    return mixed_total(rank_table(kept_house(house, lot)))


def all_terms(house):
    """The terms of all lots, by their numbers."""
    size = size_of(house)
    terms = list(rank_table(house))
    for wish in range(size):
        for number in range(1 << size):
            if number >> wish & 1:
                terms[number] -= terms[number - (1 << wish)]
    return terms


def least_terms(house):
    """All pairs of a lot and its term that is not 0, ascending."""
    terms = all_terms(house)
    return tuple(sorted([(lot_by(number), term) for number, term in enumerate(terms) if term != 0]))


def are_terms(size, thing):
    """Whether any value is a tuple of pairs of a lot, not (), and an integer."""
    return isinstance(thing, tuple) and all([is_term(size, pair) for pair in thing])


def is_term(size, thing):
    """Whether any value is a pair of a lot, not (), and an integer."""
    if not is_tuple_of(2, thing) or not is_lot(size, thing[0]):
        return False
    return len(thing[0]) > 0 and is_integer(thing[1])


def ranks_by_terms(size, terms):
    """For each lot, by its number, the terms of all lots within it, added up."""
    need(are_terms(size, terms), "terms")
    totals = [0] * (1 << size)
    for lot, term in terms:
        totals[lot_number(lot)] += term
    for wish in range(size):
        for number in range(1 << size):
            if number >> wish & 1:
                totals[number] += totals[number - (1 << wish)]
    return tuple(totals)


def worth_by_terms(terms, telling):
    """The terms, each times the least worth in its lot, added up."""
    need(is_told_for(terms, telling), "telling")
    return sum([term * min([telling[wish] for wish in lot]) for lot, term in terms])


def is_told_for(terms, thing):
    """Whether any value is a tuple with a number for each wish in the terms at least."""
    if not isinstance(thing, tuple) or not all([is_number(worth) for worth in thing]):
        return False
    return all([lot[-1] < len(thing) for lot, _ in terms])
