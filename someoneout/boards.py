"""What a board has: places, worths, choices of the others."""

from someoneout.boardchecker import lets_board
from someoneout.boardkinds import all_but, is_place, place_number, rows_by
from someoneout.demands import need
from someoneout.errors import InvalidPaper
from someoneout.kinds import is_below


def is_board(thing):
    """Whether any value is a board."""
    try:
        lets_board(thing)
    except InvalidPaper:
        return False
    return True


def places_of(board):
    """All places, ascending."""
    return rows_by(board[0])


def worth_at(board, place):
    """The worth at the place."""
    counts, worths = board
    need(is_place(counts, place), "place")
    return worths[place_number(counts, place)]


def others_of(board, person):
    """All choices of the person's others, ascending."""
    counts = board[0]
    need(is_below(len(counts), person), "person")
    return rows_by(all_but(counts, person))
