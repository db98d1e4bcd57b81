"""The least span of all safe rules of a circle, piece by piece."""

from someoneout.circlechanges import kept_circle
from someoneout.circles import own_lot
from someoneout.demands import need
from someoneout.endboards import all_rows, board_of, told_by
from someoneout.grantrules import worth_by_ranks
from someoneout.kinds import is_lot
from someoneout.leavings import full_pieces, is_full
from someoneout.pieces import pieces_of
from someoneout.quotients import added, reduced
from someoneout.ranks import rank_table
from someoneout.reductions import are_twins
from someoneout.spanpapers import least_span
from someoneout.sums import number_in


def need_piece(circle, lot):
    """Refuse what is no piece of the house."""
    need(is_lot(len(circle[2]), lot) and lot in pieces_of(circle[0]), "lot")


def need_pair(circle):
    """Refuse a circle that is not one of two persons."""
    need(circle[1] == 2, "circle")


def single_of(circle, lot):
    """The common stretch of a single piece; None if the piece is not single."""
    need_piece(circle, lot)
    return common_stretch(circle, lot)


def common_stretch(circle, lot):
    """The common stretch, or None, of what is known to be a piece."""
    if not is_full(circle, lot) or not are_own_twins(circle, lot):
        return None
    lows = []
    highs = []
    for person in range(circle[1]):
        own = [circle[3][wish] for wish in own_lot(circle, person) if wish in lot]
        lows.append(max([low for low, _ in own]))
        highs.append(max([high for _, high in own]))
    return (max(lows), min(highs))


def are_own_twins(circle, lot):
    """Whether any two wishes of the lot that one person owns are twins."""
    house, _, owners, _ = circle
    ranks = rank_table(house)
    for wish in lot:
        for other in lot:
            if wish < other and owners[wish] == owners[other] and not are_twins(ranks, wish, other):
                return False
    return True


def piece_span(circle, lot):
    """What the piece adds to the least span."""
    need_piece(circle, lot)
    return span_of_piece(circle, lot)


def span_of_piece(circle, lot):
    """What is known to be a piece adds this to the least span."""
    if not is_full(circle, lot):
        return (0, 1)
    stretch = common_stretch(circle, lot)
    if stretch is not None:
        length = max(0, stretch[1] - stretch[0])
        rest = circle[1] - 1
        return reduced(number_in(circle[0], lot) * length * rest, 1 << rest)
    kept = kept_circle(circle, lot)
    if circle[1] == 2:
        return reduced(excess_of(kept), 2)
    return least_span(board_of(kept))


def piece_spans(circle):
    """All full pieces of the house, and what each adds to the least span."""
    return tuple([(piece, span_of_piece(circle, piece)) for piece in full_pieces(circle)])


def circle_span(circle):
    """The least span of all safe rules."""
    return added([span for _, span in piece_spans(circle)])


def corner_excess(circle):
    """The best worths with the lows of the one and the highs of the other, less those with lows or highs alone."""
    need_pair(circle)
    return excess_of(circle)


def excess_of(circle):
    """The corner excess of what is known to be a circle of two persons."""
    house, _, owners, stretches = circle
    ranks = rank_table(house)
    worths = []
    for persons in ((0,), (1,), (), (0, 1)):
        telling = [stretch[1 if owner in persons else 0] for owner, stretch in zip(owners, stretches)]
        worths.append(worth_by_ranks(ranks, telling))
    return worths[0] + worths[1] - worths[2] - worths[3]


def half_tables(circle):
    """Tables by which each due is half of the best worths with the person's lows and with their highs."""
    need_pair(circle)
    return (half_table(circle, 0), half_table(circle, 1))


def half_table(circle, person):
    """The dues of the person, for all rows of the other one."""
    ranks = rank_table(circle[0])
    rows = all_rows(circle)
    dues = []
    for other in range(len(rows[1 - person])):
        # The first row of all has the lows, the last one the highs.
        places = [(row, other) if person == 0 else (other, row) for row in (0, len(rows[person]) - 1)]
        dues.append(reduced(sum([worth_by_ranks(ranks, told_by(circle, rows, place)) for place in places]), 2))
    return tuple(dues)
