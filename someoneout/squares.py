"""The least mean of the square of the till, if worths are drawn."""

from someoneout.boardkinds import choice_numbers, rows_by
from someoneout.circles import is_telling, own_lot
from someoneout.circlespans import common_stretch
from someoneout.demands import need
from someoneout.endboards import own_row, told_by
from someoneout.errors import NotSingle
from someoneout.grantrules import worth_by_ranks
from someoneout.leavings import full_pieces
from someoneout.odds import all_draws, is_odds, total_weight, weight_from
from someoneout.quotients import added, reduced
from someoneout.ranks import rank_table
from someoneout.sums import number_in


def own_draws(circle, odds, person):
    """All rows of the person that can be drawn, with their weights."""
    return all_draws([odds[wish] for wish in own_lot(circle, person)])


def mixed_values(circle, draws):
    """For each place by the rows that are drawn: the mixed part times the product of all persons' weights."""
    ranks = rank_table(circle[0])
    rows = [[row for row, _ in own] for own in draws]
    counts = [len(own) for own in rows]
    values = [worth_by_ranks(ranks, told_by(circle, rows, place)) for place in rows_by(counts)]
    for person in range(circle[1]):
        values = less_mean(counts, values, person, [weight for _, weight in draws[person]])
    return values


def less_mean(counts, values, person, weights):
    """Each value times the person's weights, less what the values with their other rows come to by these."""
    numbers = choice_numbers(counts, person)
    sums = {}
    for number, value, place in zip(numbers, values, rows_by(counts)):
        sums[number] = sums.get(number, 0) + weights[place[person]] * value
    whole = sum(weights)
    return [whole * value - sums[number] for number, value in zip(numbers, values)]


def whole_weight(odds):
    """The product of all wishes' weights, added up."""
    whole = 1
    for part in odds:
        whole = whole * total_weight(part)
    return whole


def mixed_part(circle, odds, telling):
    """The mixed part at the telling."""
    need(is_odds(circle, odds), "odds")
    need(is_telling(circle, telling), "telling")
    draws = []
    for person in range(circle[1]):
        # The told row comes last, and is not drawn by itself.
        draws.append(own_draws(circle, odds, person) + [(own_row(circle, telling, person), 0)])
    return reduced(mixed_values(circle, draws)[-1], whole_weight(odds))


def least_square(circle, odds):
    """The mean of the square of the mixed part, times the square of one less than the persons."""
    need(is_odds(circle, odds), "odds")
    draws = [own_draws(circle, odds, person) for person in range(circle[1])]
    values = mixed_values(circle, draws)
    total = 0
    for value, place in zip(values, rows_by([len(own) for own in draws])):
        weight = 1
        for own, row in zip(draws, place):
            weight = weight * own[row][1]
        total += weight * value * value
    whole = whole_weight(odds)
    return reduced(total * (circle[1] - 1) * (circle[1] - 1), whole * whole * whole)


def square_by_number(circle, odds):
    """The least square by the numbers of the full pieces; NotSingle if one of them is not single."""
    need(is_odds(circle, odds), "odds")
    pieces = full_pieces(circle)
    for piece in pieces:
        if common_stretch(circle, piece) is None:
            raise NotSingle(piece)
    factor = (circle[1] - 1) * (circle[1] - 1)
    squares = []
    for piece in pieces:
        top, bottom = square_integral(circle, odds, piece)
        number = number_in(circle[0], piece)
        squares.append((top * number * number * factor, bottom))
    return added(squares)


def square_integral(circle, odds, piece):
    """The double integral over heights for a full piece, as a pair of a top and a bottom."""
    heights = sorted(set([worth for wish in piece for worth, _ in odds[wish] if worth > 0]))
    steps = [height - lower for height, lower in zip(heights, [0] + heights[:-1])]
    chances = []
    bottom = 1
    for person in range(circle[1]):
        parts = [odds[wish] for wish in piece if circle[2][wish] == person]
        whole = whole_weight(parts)
        chances.append(([some_weight(parts, height) for height in heights], whole))
        bottom = bottom * whole * whole
    total = 0
    for upper in range(len(heights)):
        total += steps[upper] * steps[upper] * spread_product(chances, upper, upper)
        for lower in range(upper):
            total += 2 * steps[upper] * steps[lower] * spread_product(chances, upper, lower)
    return (total, bottom)


def some_weight(parts, height):
    """The weight of the draws of these wishes by which some wish is worth the height or more."""
    below = 1
    for part in parts:
        below = below * (total_weight(part) - weight_from(part, height))
    return whole_weight(parts) - below


def spread_product(chances, upper, lower):
    """The product, over persons, of the greater height's chance less the product of both chances."""
    product_so_far = 1
    for weights, whole in chances:
        product_so_far = product_so_far * weights[upper] * (whole - weights[lower])
    return product_so_far
