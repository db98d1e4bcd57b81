"""The least greatest till, never short and with nobody worse off, and papers from both sides."""

from someoneout.boardkinds import (all_but, are_shares, are_weights, choice_numbers, choice_sums, mean_by,
                                   place_count)
from someoneout.demands import demand
from someoneout.endboards import board_of
from someoneout.kinds import is_tuple_of
from someoneout.programs import solved
from someoneout.quotients import greatest_of, is_less, minus, reduced, times
from someoneout.tables import is_tables, tills_by


def least_hold(circle):
    """The least greatest till of safe rules that are never short, with nobody worse off."""
    board = board_of(circle)
    tables, _, _ = hold_solved(board)
    return greatest_of(tills_by(board, tables))


def hold_paper(circle):
    """Any tables, shares and weights that show the least greatest till."""
    return hold_solved(board_of(circle))


def lets_hold(circle, thing):
    """The greatest till of the tables, if the weights show that none is less; else InvalidPaper."""
    board = board_of(circle)
    counts, worths = board
    demand(is_tuple_of(3, thing), "shape", -1)
    tables, shares, weights = thing
    demand(is_tables(board, tables), "tables", -1)
    tills = tills_by(board, tables)
    for at, till in enumerate(tills):
        demand(till[0] >= 0, "short", at)
    for person, table in enumerate(tables):
        demand(nobody_worse_by(board, person, table), "worse", person)
    demand(are_shares(len(worths), shares), "shares", -1)
    demand(are_weights(len(worths), weights), "weights", -1)
    for person in range(len(counts)):
        demand(all([top >= 0 for top, _ in excesses(counts, person, weights, shares)]), "agree", person)
    greatest = greatest_of(tills)
    demand(greatest == held_by(board, shares, weights), "hold", -1)
    return greatest


def nobody_worse_by(board, person, table):
    """Whether no due of the person's table is above the worth where it is due."""
    numbers = choice_numbers(board[0], person)
    return not any([is_less((worth, 1), table[number]) for worth, number in zip(board[1], numbers)])


def excesses(counts, person, weights, shares):
    """For each choice of the person's others what the weights exceed the shares by."""
    own = choice_sums(counts, person, weights)
    return [minus(one, other) for one, other in zip(own, choice_sums(counts, person, shares))]


def held_by(board, shares, weights):
    """The till that no such tables' greatest till is below, by the shares and weights."""
    counts, worths = board
    held = times(minus(mean_by(worths, weights), mean_by(worths, shares)), (len(counts) - 1, 1))
    for person in range(len(counts)):
        least = least_worths(counts, worths, person)
        held = minus(held, mean_by(least, excesses(counts, person, weights, shares)))
    return held


def least_worths(counts, worths, person):
    """For each choice of the person's others the least worth at its places."""
    least = [None] * place_count(all_but(counts, person))
    for worth, number in zip(worths, choice_numbers(counts, person)):
        if least[number] is None or worth < least[number]:
            least[number] = worth
    return least


def hold_solved(board):
    """Tables with the least greatest till, and the shares and weights that show that none is less.

    Each due is the least worth at its choice's places, less a value that is found.
    """
    counts, worths = board
    highest = [least_worths(counts, worths, person) for person in range(len(counts))]
    starts = starts_of(highest)
    spots = spots_of(counts, starts)
    dues = [due for part in highest for due in part]
    tills = [sum([dues[spot] for spot in own]) - worth * (len(counts) - 1) for own, worth in zip(spots, worths)]
    # The top is above all tills, so that the last value, how far the greatest one is below it, is not 0:
    # then the prices by which it is bounded add up to 1.
    top = max(tills) + 1
    cuts = [row_at(own, 1, len(dues)) + [0] for own in spots]
    rises = [row_at(own, -1, len(dues)) + [1] for own in spots]
    bounds = tills + [top - till for till in tills]
    values, prices, bottom = solved([0] * len(dues) + [1], cuts + rises, bounds)
    found = [reduced(due * bottom - value, bottom) for due, value in zip(dues, values)]
    tables = [tuple(found[starts[person]:starts[person + 1]]) for person in range(len(counts))]
    weights = [reduced(price, bottom) for price in prices]
    return (tuple(tables), tuple(weights[len(worths):]), tuple(weights[:len(worths)]))


def starts_of(parts):
    """Where each part begins if all stand behind one another, and where the last one ends."""
    starts = [0]
    for part in parts:
        starts.append(starts[-1] + len(part))
    return starts


def spots_of(counts, starts):
    """For each place where the dues at it stand, if those of all persons stand behind one another."""
    choices = [choice_numbers(counts, person) for person in range(len(counts))]
    spots = []
    for at in range(place_count(counts)):
        spots.append([start + numbers[at] for start, numbers in zip(starts, choices)])
    return spots


def row_at(places, factor, many):
    """So many numbers, the factor at the places, else 0."""
    row = [0] * many
    for at in places:
        row[at] = factor
    return row
