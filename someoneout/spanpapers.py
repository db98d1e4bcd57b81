"""The least span of a board, and papers from both sides.

Tills, less the least of them, go from 0 to the span. Those at places with a row 0 can be any
such numbers; each other till comes from these and a mixed difference that the worths tell.
"""

from someoneout.boardkinds import agreement, are_shares, mean_by, place_number, rows_by
from someoneout.demands import demand
from someoneout.kinds import is_tuple_of, lot_by
from someoneout.mixed import mixed_between
from someoneout.programs import solved
from someoneout.quotients import minus, reduced, times
from someoneout.signs import moved
from someoneout.tables import is_tables, till_span
from someoneout.tablesums import parted_values


def least_span(board):
    """The least span that tables of the board have."""
    tables, _, _ = span_solved(board)
    return till_span(board, tables)


def span_paper(board):
    """Any tables and shares that show the least span."""
    return span_solved(board)


def lets_span(board, thing):
    """The span of the tables, if the shares show that none is less; else InvalidPaper."""
    counts, worths = board
    demand(is_tuple_of(3, thing), "shape", -1)
    tables, first, second = thing
    demand(is_tables(board, tables), "tables", -1)
    demand(are_shares(len(worths), first), "shares", 1)
    demand(are_shares(len(worths), second), "shares", 2)
    for person in range(len(counts)):
        demand(agreement(counts, person, first, second), "agree", person)
    span = till_span(board, tables)
    way = minus(mean_by(worths, first), mean_by(worths, second))
    demand(span == times(way, (len(counts) - 1, 1)), "span", -1)
    return span


def span_solved(board):
    """Tables with the least span, and two shares that show that none is less."""
    counts, worths = board
    places = rows_by(counts)
    free = [at for at, place in enumerate(places) if 0 in place]
    tied = [at for at, place in enumerate(places) if 0 not in place]
    links = [links_of(counts, places[at]) for at in tied]
    # The values are the weights of tied tills as least ones, then of tied and of free tills as
    # greatest ones. The prices are the free tills, then the span.
    rows = [free_row(links, free, at) for at in free]
    span_row = [0] * len(tied) + [1] * len(places)
    gaps = gaps_at(board, [places[at] for at in tied])
    costs = [-gap for gap in gaps] + gaps + [0] * len(free)
    values, prices, bottom = solved(costs, rows + [span_row], [0] * len(free) + [1])
    # A free till is least with the weight that its row leaves.
    rest = [-sum([factor * value for factor, value in zip(row, values)]) for row in rows]
    least = placed(tied + free, values[:len(tied)] + rest)
    greatest = placed(tied + free, values[len(tied):])
    tables = tables_for(board, placed(free + tied, prices[:-1]), bottom)
    return (tables, shares_of(least, bottom), shares_of(greatest, bottom))


def gaps_at(board, places):
    """The mixed differences of the tills between the place of all rows 0 and these places."""
    counts, worths = board
    start = (0,) * len(counts)
    return [(1 - len(counts)) * mixed_between(counts, worths, start, place) for place in places]


def links_of(counts, place):
    """For each place that has some of these rows, and else rows 0, by its number: the sign of its till."""
    many = len(counts)
    start = (0,) * many
    links = {}
    for number in range((1 << many) - 1):
        other = moved(tuple(range(many)), start, place, number)
        links[place_number(counts, other)] = -1 if (many - len(lot_by(number))) & 1 else 1
    return links


def free_row(links, free, at):
    """The factors by which the free till at the place goes into all tills."""
    signs = [link.get(at, 0) for link in links]
    return [-sign for sign in signs] + signs + [-1 if other == at else 0 for other in free]


def placed(order, values):
    """The values at the places by this order, 0 where there are no more values."""
    row = [0] * len(order)
    for at, value in zip(order, values):
        row[at] = value
    return row


def tables_for(board, tills, bottom):
    """Tables with these tills, over bottom, at the places with a row 0, and the others that come from them."""
    counts, worths = board
    sums = [till + worth * (len(counts) - 1) * bottom for till, worth in zip(tills, worths)]
    return parted_values(counts, sums, bottom)


def shares_of(weights, bottom):
    """The weights over bottom as shares."""
    # If the span is 0 both weights may add up to less than 1: what they lack may go anywhere, if for both alike.
    lack = bottom - sum(weights)
    return tuple([reduced(weights[0] + lack, bottom)] + [reduced(weight, bottom) for weight in weights[1:]])
