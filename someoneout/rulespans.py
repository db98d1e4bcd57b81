"""The least and greatest tills and the least gains of rules by tables, at all tellings.

At each telling they lie between those at end tellings.
"""

from someoneout.boardkinds import choice_numbers, rows_by
from someoneout.demands import need
from someoneout.endboards import all_rows, board_of, told_by
from someoneout.quotients import greatest_of, least_of, minus
from someoneout.tables import is_tables, tills_by


def till_ends(circle, tables):
    """The least till and the greatest one, each with the first end telling that has it."""
    board = board_of(circle)
    need(is_tables(board, tables), "tables")
    tills = tills_by(board, tables)
    rows = all_rows(circle)
    places = rows_by(board[0])
    ends = []
    for till in (least_of(tills), greatest_of(tills)):
        ends.extend([till, told_by(circle, rows, places[tills.index(till)])])
    return tuple(ends)


def worst_gains(circle, tables):
    """The least gain of each person."""
    board = board_of(circle)
    need(is_tables(board, tables), "tables")
    return tuple([least_of(gains_by(board, person, table)) for person, table in enumerate(tables)])


def gains_by(board, person, table):
    """What the person gains at each place, by their table."""
    numbers = choice_numbers(board[0], person)
    return [minus((worth, 1), table[number]) for worth, number in zip(board[1], numbers)]


def never_short(circle, tables):
    """Whether no till is below 0."""
    return till_ends(circle, tables)[0][0] >= 0


def nobody_worse(circle, tables):
    """Whether no gain is below 0."""
    return all([top >= 0 for top, _ in worst_gains(circle, tables)])
