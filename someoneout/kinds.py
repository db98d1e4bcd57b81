"""Integers, numbers, quotients, lots and orders, and the numbers of lots."""

from math import gcd

from someoneout.demands import need


def is_integer(thing):
    """Whether any value is an integer; True and False are none."""
    return isinstance(thing, int) and not isinstance(thing, bool)


def is_number(thing):
    """Whether any value is an integer that is at least 0."""
    return is_integer(thing) and thing >= 0


def is_below(bound, thing):
    """Whether any value is a number below bound."""
    return is_number(thing) and thing < bound


def is_tuple_of(many, thing):
    """Whether any value is a tuple of so many things."""
    return isinstance(thing, tuple) and len(thing) == many


def is_quotient(thing):
    """Whether any value is a pair (top, bottom) in least terms, bottom at least 1."""
    if not is_tuple_of(2, thing):
        return False
    top, bottom = thing
    if not is_integer(top) or not is_integer(bottom):
        return False
    return bottom >= 1 and gcd(top, bottom) == 1


def is_lot(size, thing):
    """Whether any value is an ascending tuple of different numbers below size."""
    if not isinstance(thing, tuple):
        return False
    last = -1
    for wish in thing:
        if not is_below(size, wish) or wish <= last:
            return False
        last = wish
    return True


def is_order(size, thing):
    """Whether any value is a tuple of all numbers below size, each once."""
    # The length goes first: size may be far too great to count up to.
    if not is_tuple_of(size, thing):
        return False
    if not all([is_below(size, wish) for wish in thing]):
        return False
    return len(set(thing)) == size


def lot_number(lot):
    """The sum of 2 ** e over the lot."""
    return sum([1 << wish for wish in lot])


def lot_by(number):
    """The lot that has this number."""
    need(is_number(number), "number")
    return tuple([wish for wish in range(number.bit_length()) if number >> wish & 1])


def lots_within(lot):
    """All lots within the lot, by their numbers."""
    lots = [()]
    for wish in lot:
        # What has this wish comes behind all that has none from here on.
        lots = lots + [part + (wish,) for part in lots]
    return tuple(lots)
