"""Least wishes of bases by an order, inside and outside, and lean bases."""

from someoneout.covers import all_bases
from someoneout.demands import demand, need
from someoneout.housechanges import as_table, others_than
from someoneout.houses import size_of
from someoneout.kinds import is_order
from someoneout.rings import cut_by, is_base, ring_with


def need_order(house, order):
    """Refuse what is no order of the wishes."""
    need(is_order(size_of(house), order), "order")


def need_order_and_base(house, order, base):
    """Refuse what is no order, then what is no base."""
    need_order(house, order)
    need(is_base(house, base), "base")


def inner_least(house, order, base):
    """The wishes of the base that come first of their cuts."""
    need_order_and_base(house, order, base)
    return inner_by(house, order, base)


def outer_least(house, order, base):
    """The wishes outside the base that come first of their rings with it."""
    need_order_and_base(house, order, base)
    return outer_by(house, order, base)


def inner_by(house, order, base):
    """The inner least wishes, by what are known to be an order and a base."""
    return tuple([wish for wish in base if first_of(order, cut_by(house, base, wish)) == wish])


def outer_by(house, order, base):
    """The outer least wishes, by what are known to be an order and a base."""
    outside = others_than(house, base)
    return tuple([wish for wish in outside if first_of(order, ring_with(house, base, wish)) == wish])


def first_of(order, lot):
    """The wish of the lot that comes first."""
    return [wish for wish in order if wish in lot][0]


def lean_bases(house, order):
    """All lean bases, ascending."""
    need_order(house, order)
    return tuple([base for base, many, more in least_counts(house, order) if many == 1 and more == 0])


def least_counts(house, order):
    """Each base, ascending, and how many inner least and outer least wishes it has."""
    # A table is asked much faster, and bases are many.
    table = as_table(house)
    counts = []
    for base in all_bases(table):
        counts.append((base, len(inner_by(table, order, base)), len(outer_by(table, order, base))))
    return counts


def spread_of(house, order):
    """How many bases have how many inner least and outer least wishes."""
    need_order(house, order)
    pairs = [(many, more) for _, many, more in least_counts(house, order)]
    return tuple([(many, more, pairs.count((many, more))) for many, more in sorted(set(pairs))])


def lets_lean(house, order, thing):
    """The one inner least wish of a lean base; InvalidPaper if it is none."""
    need_order(house, order)
    demand(is_base(house, thing), "base", -1)
    inner = inner_by(house, order, thing)
    demand(len(inner) == 1, "inner", -1)
    demand(len(outer_by(house, order, thing)) == 0, "outer", -1)
    return inner[0]
