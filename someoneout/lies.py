"""Lies that gain: two tellings that differ in one wish of a person whose amounts there are unlike."""

from someoneout.boardkinds import place_number, rows_by
from someoneout.circles import ends_of, is_in, own_lot
from someoneout.claims import is_claim
from someoneout.demands import need
from someoneout.endboards import all_rows, place_for, told_by
from someoneout.quotients import is_less


def lie_of(circle, claim):
    """Any lie that gains; None if each person's amounts are blind to them."""
    need(is_claim(circle, claim), "claim")
    for person in range(circle[1]):
        lie = lie_by(circle, claim[person], person)
        if lie is not None:
            return lie
    return None


def lie_by(circle, amounts, person):
    """Any lie of this person, or None."""
    rows = all_rows(circle)
    counts = [len(own) for own in rows]
    for at, place in enumerate(rows_by(counts)):
        telling = told_by(circle, rows, place)
        for wish in own_lot(circle, person):
            lifted = lifted_at(circle, telling, wish)
            if lifted is None:
                continue
            other = amounts[place_number(counts, place_for(circle, rows, lifted))]
            if is_less(other, amounts[at]):
                return (person, wish, telling, lifted)
            if is_less(amounts[at], other):
                return (person, wish, lifted, telling)
    return None


def lifted_at(circle, telling, wish):
    """The end telling with the wish at the next end; None if that is beyond its stretch."""
    above = [end for end in ends_of(circle) if end > telling[wish]]
    if len(above) == 0 or not is_in(circle[3][wish], above[0]):
        return None
    return telling[:wish] + (above[0],) + telling[wish + 1:]
