"""What a circle has: owners, who is left out, ends, tellings."""

from someoneout.circlechecker import lets_circle
from someoneout.demands import need
from someoneout.errors import InvalidPaper
from someoneout.kinds import is_below, is_lot, is_number, is_tuple_of


def is_circle(thing):
    """Whether any value is a circle."""
    try:
        lets_circle(thing)
    except InvalidPaper:
        return False
    return True


def own_lot(circle, person):
    """The lot of the person's wishes."""
    need(is_below(circle[1], person), "person")
    return tuple([wish for wish, owner in enumerate(circle[2]) if owner == person])


def left_out(circle, lot):
    """All persons who own no wish of the lot."""
    people, owners = circle[1:3]
    need(is_lot(len(owners), lot), "lot")
    named = [owners[wish] for wish in lot]
    return tuple([person for person in range(people) if person not in named])


def ends_of(circle):
    """All lows and highs, ascending."""
    return ends_by(circle[3])


def ends_by(stretches):
    """All lows and highs of the stretches, ascending."""
    ends = []
    for stretch in stretches:
        ends.extend(list(stretch))
    return tuple(sorted(set(ends)))


def is_telling(circle, thing):
    """Whether any value is a tuple with a worth in its stretch for each wish."""
    return are_in(circle[3], thing)


def are_in(stretches, thing):
    """Whether any value is a tuple with a number in each of the stretches."""
    if not is_tuple_of(len(stretches), thing):
        return False
    return all([is_in(stretch, worth) for stretch, worth in zip(stretches, thing)])


def is_in(stretch, thing):
    """Whether any value is a number in the stretch."""
    return is_number(thing) and stretch[0] <= thing <= stretch[1]


def same_stretch(circle):
    """The stretch that all wishes have, or None."""
    stretches = circle[3]
    if len(set(stretches)) != 1:
        return None
    return stretches[0]
