"""Rules by tables: dues, gains, payments and the till at any telling."""

from someoneout.boardkinds import are_tables
from someoneout.circles import is_telling
from someoneout.demands import need
from someoneout.endboards import all_rows, counts_of, place_for
from someoneout.grantrules import granted_lot, worth_of
from someoneout.mixtures import mixture_at, weighted
from someoneout.others import own_part
from someoneout.quotients import added, minus
from someoneout.tables import dues_by


def need_rule(circle, tables, telling):
    """Refuse what are no tables of the circle's board, then what is no telling."""
    need(are_tables(counts_of(circle), tables), "tables")
    need(is_telling(circle, telling), "telling")


def dues_at(circle, tables, telling):
    """The due of each person: the mean of those at the end tellings of the mixture."""
    need_rule(circle, tables, telling)
    rows = all_rows(circle)
    counts = tuple([len(own) for own in rows])
    parts = [[] for _ in range(circle[1])]
    for told, weight in mixture_at(circle, telling):
        dues = dues_by(counts, tables, place_for(circle, rows, told))
        for person, due in enumerate(dues):
            parts[person].append((due, weight))
    return tuple([weighted(part) for part in parts])


def gains_at(circle, tables, telling):
    """What each person gains: the best worth less the due."""
    dues = dues_at(circle, tables, telling)
    best = worth_of(telling, granted_lot(circle[0], telling))
    return tuple([minus((best, 1), due) for due in dues])


def payments_at(circle, tables, telling):
    """What each person pays: the worth of their granted wishes, less the gain."""
    gains = gains_at(circle, tables, telling)
    lot = granted_lot(circle[0], telling)
    payments = []
    for person, gain in enumerate(gains):
        payments.append(minus((own_part(circle, telling, person, lot), 1), gain))
    return tuple(payments)


def rule_till(circle, tables, telling):
    """All payments, added up."""
    return added(payments_at(circle, tables, telling))
