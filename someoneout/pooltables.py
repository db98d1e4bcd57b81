"""Rules by tables for pools."""

from someoneout.boardkinds import are_tables, rows_by
from someoneout.circles import are_in, ends_by
from someoneout.demands import need
from someoneout.gaps import gap_total
from someoneout.grantrules import worth_by_ranks
from someoneout.mixtures import mixture_by, weighted
from someoneout.poolboards import pool_board, pool_counts, pool_rows, pool_signed, pool_told
from someoneout.poolgrants import granted_units
from someoneout.quotients import added, minus
from someoneout.tables import dues_by
from someoneout.tablesums import parted_values


def pool_tables(pool):
    """Any tables whose tills have the least span; if the pool stays, the till 0 at each place."""
    counts, worths = pool_board(pool)
    rows = pool_rows(pool)
    many = len(counts)
    low = max([least for least, _ in pool[1]])
    high = min([most for _, most in pool[1]])
    factor = pool_signed(pool) * (many - 1)
    values = []
    for worth, place in zip(worths, rows_by(counts)):
        gap = factor * gap_total(low, high, pool_told(rows, place))
        till = gap if many & 1 else -gap
        values.append(till + worth * (many - 1) * (1 << many))
    return parted_values(counts, values, 1 << many)


def pool_payments(pool, tables, telling):
    """What each person pays: the worth of their granted units, less the gain."""
    units, stretches = pool
    need(are_tables(pool_counts(pool), tables), "tables")
    need(are_in(stretches, telling), "telling")
    best = worth_by_ranks(units, telling)
    payments = []
    for worth, got, due in zip(telling, granted_units(pool, telling), pool_dues(pool, tables, telling)):
        payments.append(minus((worth * got - best, 1), (-due[0], due[1])))
    return tuple(payments)


def pool_dues(pool, tables, telling):
    """The mean of each person's dues at the end tellings of the mixture."""
    rows = pool_rows(pool)
    counts = pool_counts(pool)
    parts = [[] for _ in rows]
    for told, weight in mixture_by(ends_by(pool[1]), telling):
        place = tuple([own.index(worth) for own, worth in zip(rows, told)])
        for person, due in enumerate(dues_by(counts, tables, place)):
            parts[person].append((due, weight))
    return [weighted(part) for part in parts]


def pool_till(pool, tables, telling):
    """All payments, added up."""
    return added(pool_payments(pool, tables, telling))
