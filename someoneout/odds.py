"""Odds: each wish is drawn by its weights, all by themselves."""

from someoneout.boardkinds import rows_by
from someoneout.circles import ends_of, is_in
from someoneout.demands import need
from someoneout.endboards import all_rows, told_by
from someoneout.grantrules import worth_by_ranks
from someoneout.kinds import is_below, is_integer, is_number, is_tuple_of
from someoneout.quotients import reduced
from someoneout.ranks import rank_table


def is_odds(circle, thing):
    """Whether any value has, for each wish, worths in its stretch with their weights."""
    stretches = circle[3]
    if not is_tuple_of(len(stretches), thing):
        return False
    return all([is_draw(stretch, part) for stretch, part in zip(stretches, thing)])


def is_draw(stretch, thing):
    """Whether any value is a tuple, not (), of pairs of a worth in the stretch and a weight, by rising worths."""
    if not isinstance(thing, tuple) or len(thing) == 0:
        return False
    last = -1
    for pair in thing:
        if not is_tuple_of(2, pair) or not is_in(stretch, pair[0]) or pair[0] <= last:
            return False
        if not is_integer(pair[1]) or pair[1] < 1:
            return False
        last = pair[0]
    return True


def even_odds(circle):
    """For each wish all ends in its stretch, with the weight 1."""
    ends = ends_of(circle)
    return tuple([tuple([(end, 1) for end in ends if is_in(stretch, end)]) for stretch in circle[3]])


def total_weight(part):
    """The weights of one wish, added up."""
    return sum([weight for _, weight in part])


def weight_from(part, height):
    """The weights of worths of the height or more, added up."""
    return sum([weight for worth, weight in part if worth >= height])


def chance_from(odds, wish, height):
    """The chance that the wish is worth the height or more."""
    need(is_below(len(odds), wish), "wish")
    need(is_number(height), "height")
    return reduced(weight_from(odds[wish], height), total_weight(odds[wish]))


def all_draws(odds):
    """All pairs of a telling that can be drawn and its weight, the product of its worths' weights."""
    draws = [((), 1)]
    for part in odds:
        draws = [(telling + (worth,), many * weight) for telling, many in draws for worth, weight in part]
    return draws


def mean_worth(circle, odds):
    """The mean of the best worth."""
    need(is_odds(circle, odds), "odds")
    ranks = rank_table(circle[0])
    draws = all_draws(odds)
    total = sum([weight * worth_by_ranks(ranks, telling) for telling, weight in draws])
    return reduced(total, sum([weight for _, weight in draws]))


def need_end_odds(circle, odds):
    """Refuse what are no odds of the circle, and odds with a worth that is no end."""
    need(is_odds(circle, odds), "odds")
    ends = ends_of(circle)
    need(all([worth in ends for part in odds for worth, _ in part]), "odds")


def odds_shares(circle, odds):
    """For each place the chance of its end telling."""
    need_end_odds(circle, odds)
    weights, bottom = place_weights(circle, odds)
    return tuple([reduced(weight, bottom) for weight in weights])


def place_weights(circle, odds):
    """For each place the weight of its end telling, and all of them added up."""
    known = {telling: weight for telling, weight in all_draws(odds)}
    rows = all_rows(circle)
    places = rows_by([len(own) for own in rows])
    weights = [known.get(told_by(circle, rows, place), 0) for place in places]
    return (weights, sum(weights))
