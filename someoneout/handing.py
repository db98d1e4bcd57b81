"""Tills handed on: in each piece of the house somebody whom it leaves out gets what the others pay."""

from someoneout.boardkinds import all_but, rows_by
from someoneout.circles import is_telling, left_out
from someoneout.demands import need
from someoneout.endboards import all_rows, told_by
from someoneout.errors import Full
from someoneout.grantrules import granted_lot, worth_by_ranks, worth_of
from someoneout.pieces import pieces_of
from someoneout.ranks import rank_table


def best_within(ranks, telling, lot):
    """The best worth of what is known to be a lot."""
    # What is worth nothing does not raise the best worth.
    return worth_by_ranks(ranks, [worth if wish in lot else 0 for wish, worth in enumerate(telling)])


def not_of(circle, lot, person):
    """The wishes of the lot that are not the person's."""
    return tuple([wish for wish in lot if circle[2][wish] != person])


def tellings_without(circle, person):
    """For each choice of the person's others an end telling with it."""
    rows = all_rows(circle)
    choices = rows_by(all_but([len(own) for own in rows], person))
    return [told_by(circle, rows, choice[:person] + (0,) + choice[person:]) for choice in choices]


def loss_tables(circle):
    """The tables by which each due is the best worth of all wishes but the person's."""
    ranks = rank_table(circle[0])
    wishes = tuple(range(len(circle[2])))
    tables = []
    for person in range(circle[1]):
        others = not_of(circle, wishes, person)
        tellings = tellings_without(circle, person)
        tables.append(tuple([(best_within(ranks, telling, others), 1) for telling in tellings]))
    return tuple(tables)


def taken_pieces(circle):
    """The pairs of each piece of the house and its taker; Full if a piece leaves nobody out."""
    pairs = []
    for piece in pieces_of(circle[0]):
        people = left_out(circle, piece)
        if len(people) == 0:
            raise Full(None, piece)
        pairs.append((piece, people[0]))
    return tuple(pairs)


def handed_row(circle, telling):
    """What each person pays, piece by piece; what is below 0 they get."""
    need(is_telling(circle, telling), "telling")
    pairs = taken_pieces(circle)
    ranks = rank_table(circle[0])
    lot = granted_lot(circle[0], telling)
    payments = [0] * circle[1]
    for piece, taker in pairs:
        granted_here = [wish for wish in piece if wish in lot]
        for person in range(circle[1]):
            rest = best_within(ranks, telling, not_of(circle, piece, person))
            loss = rest - worth_of(telling, not_of(circle, granted_here, person))
            # The others lose nothing by the taker, who owns nothing here.
            payments[person] += loss
            payments[taker] -= loss
    return tuple(payments)


def handed_tables(circle):
    """The tables of the rule by which each pays what handed_row tells."""
    pairs = taken_pieces(circle)
    ranks = rank_table(circle[0])
    tables = []
    for person in range(circle[1]):
        dues = []
        for telling in tellings_without(circle, person):
            dues.append((sum([piece_due(circle, ranks, telling, pair, person) for pair in pairs]), 1))
        tables.append(tuple(dues))
    return tuple(tables)


def piece_due(circle, ranks, telling, pair, person):
    """The person's due in one piece."""
    piece, taker = pair
    if person != taker:
        return best_within(ranks, telling, not_of(circle, piece, person))
    return taker_due([best_within(ranks, telling, not_of(circle, piece, other)) for other in range(circle[1])], taker)


def taker_due(rests, taker):
    """The taker's due in a piece, by its best worths without each person's wishes.

    Each other person pays their rest, less the best worth of the piece, more their granted worth;
    the taker's due is the best worth, less all of that. The rest of the taker is the best worth.
    """
    return len(rests) * rests[taker] - sum(rests)
