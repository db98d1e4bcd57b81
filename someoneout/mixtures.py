"""Mixtures of end tellings, and means over them."""

from someoneout.boardkinds import are_quotients, place_count, place_number
from someoneout.circles import ends_of, is_telling
from someoneout.demands import need
from someoneout.endboards import all_rows, place_for
from someoneout.quotients import added, greatest_of, is_less, minus, reduced


def mixture_of(circle, telling):
    """The pairs of end tellings and weights, first that with no worth gone up, then with more and more."""
    need(is_telling(circle, telling), "telling")
    return mixture_at(circle, telling)


def mixture_at(circle, telling):
    """The mixture of what is known to be a telling."""
    return mixture_by(ends_of(circle), telling)


def mixture_by(ends, telling):
    """The mixture of worths from the least to the greatest of these ends."""
    lows = [max([end for end in ends if end <= worth]) for worth in telling]
    highs = [min([end for end in ends if end >= worth]) for worth in telling]
    lifts = [lift_of(low, high, worth) for low, high, worth in zip(lows, highs, telling)]
    pairs = []
    cut = (1, 1)
    raised = tuple(lows)
    for lift in falling(lifts):
        pairs.append((raised, minus(cut, lift)))
        cut = lift
        raised = tuple([low if is_less(own, cut) else high for low, high, own in zip(lows, highs, lifts)])
    pairs.append((raised, cut))
    return tuple(pairs)


def lift_of(low, high, worth):
    """The way from the low end to the worth, over the way between the ends; 0 for an end."""
    if low == high:
        return (0, 1)
    return reduced(worth - low, high - low)


def falling(lifts):
    """The different lifts above 0, the greatest first."""
    left = [lift for lift in lifts if lift[0] > 0]
    ordered = []
    while len(left) > 0:
        ordered.append(greatest_of(left))
        left = [lift for lift in left if lift != ordered[-1]]
    return ordered


def mean_over(circle, row, telling):
    """The quotients of the row at the end tellings of the mixture, each times its weight, added up."""
    rows = all_rows(circle)
    counts = [len(own) for own in rows]
    need(are_quotients(place_count(counts), row), "row")
    need(is_telling(circle, telling), "telling")
    pairs = []
    for told, weight in mixture_at(circle, telling):
        pairs.append((row[place_number(counts, place_for(circle, rows, told))], weight))
    return weighted(pairs)


def weighted(pairs):
    """The first ones of pairs of quotients, each times the second one, added up."""
    return added([(one[0] * other[0], one[1] * other[1]) for one, other in pairs])
