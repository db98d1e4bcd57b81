"""Tills that the gaps between worths tell: as even as can be, if all full pieces are single."""

from someoneout.boardkinds import rows_by
from someoneout.circles import is_telling
from someoneout.circlespans import common_stretch
from someoneout.demands import need
from someoneout.endboards import all_rows, board_of, told_by
from someoneout.errors import NotSingle
from someoneout.kinds import is_number
from someoneout.leavings import full_pieces
from someoneout.quotients import reduced
from someoneout.rankrules import lot_rank
from someoneout.sums import number_in
from someoneout.tablesums import parted_values


def gap_sum(low, high, worths):
    """The gaps between low, the worths in sequence, and high, with signs by turns, over 2 to the power of the many."""
    need(is_number(low), "low")
    need(is_number(high) and high >= low, "high")
    need(are_many_worths(worths), "worths")
    return reduced(gap_total(low, high, worths), 1 << len(worths))


def are_many_worths(thing):
    """Whether any value is a tuple of at least two numbers."""
    return isinstance(thing, tuple) and len(thing) >= 2 and all([is_number(worth) for worth in thing])


def gap_total(low, high, worths):
    """The gaps with signs by turns, added up; 0 if high is below low."""
    if high < low:
        return 0
    points = [low] + sorted([min(max(low, worth), high) for worth in worths]) + [high]
    gaps = [points[at + 1] - points[at] for at in range(len(points) - 1)]
    return sum(gaps[::2]) - sum(gaps[1::2])


def gap_parts(circle):
    """For each full piece: it, its common stretch, and its number with its sign; NotSingle if it is not single."""
    parts = []
    for piece in full_pieces(circle):
        stretch = common_stretch(circle, piece)
        if stretch is None:
            raise NotSingle(piece)
        number = number_in(circle[0], piece)
        odd = (circle[1] - lot_rank(circle[0], piece)) & 1
        parts.append((piece, stretch, -number if odd else number))
    return parts


def gap_till(circle, telling):
    """The till that the gaps tell."""
    need(is_telling(circle, telling), "telling")
    return reduced(gap_top(circle, gap_parts(circle), telling), 1 << circle[1])


def gap_top(circle, parts, telling):
    """The till over 2 to the power of the persons."""
    total = 0
    for piece, (low, high), number in parts:
        total += number * gap_total(low, high, greatest_worths(circle, piece, telling))
    return -total * (circle[1] - 1)


def greatest_worths(circle, piece, telling):
    """The greatest worth of each person's wishes in a full piece."""
    people, owners = circle[1:3]
    return [max([telling[wish] for wish in piece if owners[wish] == person]) for person in range(people)]


def gap_tables(circle):
    """Any tables with these tills at all places."""
    parts = gap_parts(circle)
    counts, worths = board_of(circle)
    rows = all_rows(circle)
    bottom = 1 << circle[1]
    values = []
    for worth, place in zip(worths, rows_by(counts)):
        till = gap_top(circle, parts, told_by(circle, rows, place))
        values.append(till + worth * (circle[1] - 1) * bottom)
    return parted_values(counts, values, bottom)
