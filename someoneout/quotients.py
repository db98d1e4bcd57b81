"""Reckoning with quotients."""

from math import gcd

from someoneout.demands import need
from someoneout.kinds import is_integer, is_quotient


def reduced(top, bottom):
    """The quotient for top / bottom, bottom not 0."""
    common = gcd(top, bottom)
    if bottom < 0:
        common = -common
    return (top // common, bottom // common)


def need_both(one, other):
    """Refuse what is no quotient, the first parameter first."""
    need(is_quotient(one), "one")
    need(is_quotient(other), "other")


def quotient_of(top, bottom):
    """The quotient that stands for top / bottom."""
    need(is_integer(top), "top")
    need(is_integer(bottom) and bottom != 0, "bottom")
    return reduced(top, bottom)


def plus(one, other):
    """The sum of both."""
    need_both(one, other)
    return reduced(one[0] * other[1] + other[0] * one[1], one[1] * other[1])


def minus(one, other):
    """One less other."""
    need_both(one, other)
    return reduced(one[0] * other[1] - other[0] * one[1], one[1] * other[1])


def times(one, other):
    """The product of both."""
    need_both(one, other)
    return reduced(one[0] * other[0], one[1] * other[1])


def over(one, other):
    """One divided by other, which is not nought."""
    need_both(one, other)
    need(other[0] != 0, "other")
    return reduced(one[0] * other[1], one[1] * other[0])


def less(one, other):
    """Whether one is less than other."""
    need_both(one, other)
    return one[0] * other[1] < other[0] * one[1]
