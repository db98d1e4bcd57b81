"""Mixed differences of a board."""

from someoneout.boardkinds import is_place, place_number, rows_by
from someoneout.demands import need
from someoneout.signs import mixed_total, moved


def mixed_at(board, here, there):
    """The mixed difference between two places."""
    need(is_place(board[0], here), "here")
    need(is_place(board[0], there), "there")
    return mixed_between(board[0], board[1], here, there)


def mixed_between(counts, worths, here, there):
    """The mixed difference, by what are known to be places."""
    persons = tuple(range(len(counts)))
    # With the same row of somebody in both, all worths cancel.
    if any([here[person] == there[person] for person in persons]):
        return 0
    places = [moved(persons, here, there, number) for number in range(1 << len(counts))]
    return mixed_total([worths[place_number(counts, place)] for place in places])


def uneven_place(board):
    """The first place with a mixed difference from the place of all rows 0, or None."""
    counts, worths = board
    start = (0,) * len(counts)
    for place in rows_by(counts):
        if mixed_between(counts, worths, start, place) != 0:
            return place
    return None
