"""The parts of a circle, each by itself."""

from someoneout.kinds import is_below, is_integer, is_number, is_tuple_of


def is_people(thing):
    """Whether any value can tell how many persons a circle has."""
    return is_integer(thing) and thing >= 2


def is_stretch(thing):
    """Whether any value is a pair of numbers, low at most high."""
    if not is_tuple_of(2, thing):
        return False
    return is_number(thing[0]) and is_number(thing[1]) and thing[0] <= thing[1]


def are_owners(size, people, thing):
    """Whether any value is a tuple with a person for each wish."""
    return is_tuple_of(size, thing) and all([is_below(people, owner) for owner in thing])


def are_stretches(size, thing):
    """Whether any value is a tuple with a stretch for each wish."""
    return is_tuple_of(size, thing) and all([is_stretch(stretch) for stretch in thing])
