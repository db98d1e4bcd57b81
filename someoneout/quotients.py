"""Reckoning with quotients."""

from math import gcd, lcm

from someoneout.demands import need
from someoneout.kinds import is_integer, is_quotient


def reduced(top, bottom):
    """The quotient for top / bottom, bottom not 0."""
    common = gcd(top, bottom)
    if bottom < 0:
        common = -common
    return (top // common, bottom // common)


def need_both(one, other):
    """Refuse what is no quotient, the first parameter first."""
    need(is_quotient(one), "one")
    need(is_quotient(other), "other")


def quotient_of(top, bottom):
    """The quotient that stands for top / bottom."""
    need(is_integer(top), "top")
    need(is_integer(bottom) and bottom != 0, "bottom")
    return reduced(top, bottom)


def plus(one, other):
    """The sum of both."""
    need_both(one, other)
    return reduced(one[0] * other[1] + other[0] * one[1], one[1] * other[1])


def minus(one, other):
    """One less other."""
    need_both(one, other)
    return reduced(one[0] * other[1] - other[0] * one[1], one[1] * other[1])


def times(one, other):
    """The product of both."""
    need_both(one, other)
    return reduced(one[0] * other[0], one[1] * other[1])


def over(one, other):
    """One divided by other, which is not nought."""
    need_both(one, other)
    need(other[0] != 0, "other")
    return reduced(one[0] * other[1], one[1] * other[0])


def less(one, other):
    """Whether one is less than other."""
    need_both(one, other)
    return is_less(one, other)


def added(quotients):
    """The sum of what are known to be pairs of tops and bottoms, in least terms or not."""
    common = 1
    for _, bottom in quotients:
        common = lcm(common, bottom)
    return reduced(sum([top * (common // bottom) for top, bottom in quotients]), common)


def is_less(one, other):
    """Whether one of two known quotients is less than the other."""
    return one[0] * other[1] < other[0] * one[1]


def greatest_of(quotients):
    """The greatest of known quotients, of which there is one."""
    greatest = quotients[0]
    for quotient in quotients:
        if is_less(greatest, quotient):
            greatest = quotient
    return greatest


def least_of(quotients):
    """The least of known quotients, of which there is one."""
    least = quotients[0]
    for quotient in quotients:
        if is_less(quotient, least):
            least = quotient
    return least
