"""Sums and multiples of tables, and tables with given sums of dues."""

from someoneout.boardkinds import all_but, place_number, rows_by
from someoneout.demands import need
from someoneout.errors import Uneven
from someoneout.kinds import is_quotient, lot_by
from someoneout.mixed import uneven_place
from someoneout.quotients import added, reduced
from someoneout.tables import is_tables


def tables_plus(board, tables, other):
    """The quotients of both tables, added one by one."""
    need(is_tables(board, tables), "tables")
    need(is_tables(board, other), "other")
    return tuple([tuple([added(pair) for pair in zip(one, more)]) for one, more in zip(tables, other)])


def tables_times(board, tables, quotient):
    """The quotients of the tables, each times the quotient."""
    need(is_tables(board, tables), "tables")
    need(is_quotient(quotient), "quotient")
    top, bottom = quotient
    return tuple([tuple([reduced(due * top, under * bottom) for due, under in table]) for table in tables])


def flat_tables(board):
    """Any tables with a till of nought at each place; Uneven if there are none."""
    place = uneven_place(board)
    if place is not None:
        raise Uneven(place)
    counts, worths = board
    return parted_values(counts, [worth * (len(counts) - 1) for worth in worths], 1)


def parted_values(counts, values, bottom):
    """Tables whose dues at each place add up to its value over bottom, if all mixed differences are 0.

    Such a value is the sum of those at all places with some of its rows made 0, with signs.
    Each of these is put on the first person whose row is made 0 in it. Values at places
    without a row 0 are not asked for.
    """
    tables = []
    for person in range(len(counts)):
        choices = rows_by(all_but(counts, person))
        totals = [signed_values(counts, values, choice, person) for choice in choices]
        tables.append(tuple([reduced(total, bottom) for total in totals]))
    return tuple(tables)


def signed_values(counts, values, choice, person):
    """The values at the places where the person's row is the first one made 0, with signs, added up."""
    earlier, later = choice[:person], choice[person:]
    total = 0
    for number in range(1 << len(later)):
        kept = tuple([row if number >> at & 1 else 0 for at, row in enumerate(later)])
        value = values[place_number(counts, earlier + (0,) + kept)]
        # The sign changes for each further row that is made 0.
        total += -value if (len(later) - len(lot_by(number))) & 1 else value
    return total
