"""The checker of terms."""

from someoneout.demands import demand
from someoneout.houses import size_of
from someoneout.kinds import lot_number
from someoneout.leasts import all_terms, is_term


def lets_terms(house, thing):
    """How many pairs there are; InvalidPaper unless they are the least terms of the house."""
    demand(isinstance(thing, tuple), "shape", -1)
    size = size_of(house)
    terms = all_terms(house)
    told = {}
    last = ()
    for at, pair in enumerate(thing):
        demand(is_term(size, pair), "pair", at)
        lot, term = pair
        demand(lot > last, "later", at)
        demand(term != 0 and term == terms[lot_number(lot)], "term", at)
        told[lot_number(lot)] = True
        last = lot
    demand(all([term == 0 or number in told for number, term in enumerate(terms)]), "left", -1)
    return len(thing)
