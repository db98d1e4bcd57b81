"""Tables of a board: dues, tills, spans."""

from someoneout.boardkinds import all_but, are_tables, choice_numbers, is_place, place_number
from someoneout.demands import need
from someoneout.quotients import added, greatest_of, least_of, minus


def is_tables(board, thing):
    """Whether any value is tables of the board."""
    return are_tables(board[0], thing)


def dues_of(board, tables, place):
    """The dues of all persons at the place."""
    need(is_tables(board, tables), "tables")
    need(is_place(board[0], place), "place")
    return dues_by(board[0], tables, place)


def dues_by(counts, tables, place):
    """The dues at what is known to be a place."""
    dues = []
    for person, table in enumerate(tables):
        choice = all_but(place, person)
        dues.append(table[place_number(all_but(counts, person), choice)])
    return tuple(dues)


def till_row(board, tables):
    """The tills at all places."""
    need(is_tables(board, tables), "tables")
    return tills_by(board, tables)


def tills_by(board, tables):
    """The tills at all places, by what are known to be tables."""
    counts, worths = board
    choices = [choice_numbers(counts, person) for person in range(len(counts))]
    tills = []
    for at, worth in enumerate(worths):
        dues = [table[numbers[at]] for table, numbers in zip(tables, choices)]
        tills.append(added(dues + [(worth * (1 - len(counts)), 1)]))
    return tuple(tills)


def till_span(board, tables):
    """The greatest till less the least."""
    tills = till_row(board, tables)
    return minus(greatest_of(tills), least_of(tills))
