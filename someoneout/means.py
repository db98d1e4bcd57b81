"""The least mean till of rules that are never short, if ends are drawn, with papers from both sides.

Shares that agree with the odds on what the others tell differ from them by multiples of the
mixed differences with the place of all rows 0.
"""

from someoneout.boardkinds import agreement, are_shares, mean_by, rows_by
from someoneout.demands import demand
from someoneout.endboards import board_of
from someoneout.kinds import is_tuple_of
from someoneout.mixtures import weighted
from someoneout.odds import need_end_odds, odds_shares, place_weights, total_weight, weight_from
from someoneout.programs import solved
from someoneout.quotients import added, minus, reduced, times
from someoneout.spanpapers import gaps_at, links_of, tables_for
from someoneout.tables import is_tables, tills_by


def least_mean(circle, odds):
    """The least mean till of safe rules that are never short."""
    need_end_odds(circle, odds)
    tables, _ = mean_solved(circle, odds)
    return mean_till(board_of(circle), tables, odds_shares(circle, odds))


def mean_paper(circle, odds):
    """Any tables and shares that show the least mean till."""
    need_end_odds(circle, odds)
    return mean_solved(circle, odds)


def mean_till(board, tables, chances):
    """The mean of the till by the chances of the places."""
    return weighted(list(zip(tills_by(board, tables), chances)))


def lets_mean(circle, odds, thing):
    """The mean till of the tables, if the shares show that none is less; else InvalidPaper."""
    # This refuses what are no odds, too.
    chances = odds_shares(circle, odds)
    board = board_of(circle)
    counts, worths = board
    demand(is_tuple_of(2, thing), "shape", -1)
    tables, shares = thing
    demand(is_tables(board, tables), "tables", -1)
    for at, till in enumerate(tills_by(board, tables)):
        demand(till[0] >= 0, "short", at)
    demand(are_shares(len(worths), shares), "shares", -1)
    for person in range(len(counts)):
        demand(agreement(counts, person, shares, chances), "agree", person)
    mean = mean_till(board, tables, chances)
    way = minus(mean_by(worths, shares), mean_by(worths, chances))
    demand(mean == times(way, (len(counts) - 1, 1)), "mean", -1)
    return mean


def mean_solved(circle, odds):
    """Tables with the least mean till, and the shares that show that none is less."""
    board = board_of(circle)
    counts = board[0]
    places = rows_by(counts)
    weights, whole = place_weights(circle, odds)
    tied = [at for at, place in enumerate(places) if 0 not in place]
    links = [links_of(counts, places[at]) for at in tied]
    # What each difference adds to the shares may go both ways: its values are a rise and a fall.
    # No share falls below 0; the prices of this are the tills.
    signs = [[1 if at == own else link.get(at, 0) for own, link in zip(tied, links)] for at in range(len(places))]
    gaps = gaps_at(board, [places[at] for at in tied])
    costs = [-gap for gap in gaps] + gaps
    rows = [[-sign for sign in row] + row for row in signs]
    values, prices, bottom = solved(costs, rows, weights)
    shares = []
    for row, weight in zip(rows, weights):
        moved_by = sum([factor * value for factor, value in zip(row, values)])
        shares.append(reduced(weight * bottom - moved_by, whole * bottom))
    return (tables_for(board, prices, bottom), tuple(shares))


def pair_mean(one, other):
    """The integral over heights of the smaller one of the chances that both are worth it, or neither."""
    heights = sorted(set([worth for worth, _ in one + other if worth > 0]))
    bottom = total_weight(one) * total_weight(other)
    parts = []
    for height, lower in zip(heights, [0] + heights[:-1]):
        mine, theirs = weight_from(one, height), weight_from(other, height)
        neither = (total_weight(one) - mine) * (total_weight(other) - theirs)
        parts.append(((height - lower) * min(mine * theirs, neither), bottom))
    return added(parts)
