"""The board of a circle: its rows stand for tellings of ends, its worths are best worths."""

from someoneout.boardkinds import is_place, rows_by
from someoneout.circles import ends_of, is_in, is_telling, own_lot
from someoneout.demands import need
from someoneout.grantrules import worth_by_ranks
from someoneout.ranks import rank_table


def end_rows(circle, person):
    """All rows of the person in end tellings, ascending."""
    ends = ends_of(circle)
    rows = [()]
    # This refuses what is no person, too.
    for wish in own_lot(circle, person):
        inside = [end for end in ends if is_in(circle[3][wish], end)]
        rows = [row + (end,) for row in rows for end in inside]
    return tuple(rows)


def all_rows(circle):
    """The rows of all persons."""
    return [end_rows(circle, person) for person in range(circle[1])]


def counts_of(circle):
    """How many rows each person has."""
    return tuple([len(rows) for rows in all_rows(circle)])


def board_of(circle):
    """The board of the circle."""
    rows = all_rows(circle)
    counts = tuple([len(own) for own in rows])
    ranks = rank_table(circle[0])
    worths = [worth_by_ranks(ranks, told_by(circle, rows, place)) for place in rows_by(counts)]
    return (counts, tuple(worths))


def told_by(circle, rows, place):
    """The telling of the rows that the persons have at the place."""
    telling = [0] * len(circle[2])
    for person, row in enumerate(place):
        for wish, worth in zip(own_lot(circle, person), rows[person][row]):
            telling[wish] = worth
    return tuple(telling)


def own_row(circle, telling, person):
    """The worths of the person's wishes."""
    return tuple([telling[wish] for wish in own_lot(circle, person)])


def is_end_telling(circle, thing):
    """Whether any value is a telling with only ends as worths."""
    ends = ends_of(circle)
    return is_telling(circle, thing) and all([worth in ends for worth in thing])


def place_of(circle, telling):
    """The place that stands for the end telling."""
    need(is_end_telling(circle, telling), "telling")
    return place_for(circle, all_rows(circle), telling)


def place_for(circle, rows, telling):
    """The place, by the rows of all persons and what is known to be an end telling."""
    return tuple([rows[person].index(own_row(circle, telling, person)) for person in range(circle[1])])


def telling_at(circle, place):
    """The end telling for which the place stands."""
    rows = all_rows(circle)
    need(is_place([len(own) for own in rows], place), "place")
    return told_by(circle, rows, place)
