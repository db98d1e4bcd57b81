"""What the others lose by a person, and what a person gains who pays just that."""

from someoneout.circles import is_telling, own_lot
from someoneout.demands import need
from someoneout.grantrules import granted_among, granted_lot, without_lot, worth_of
from someoneout.kinds import is_below


def need_asked(circle, telling, person):
    """Refuse what is no telling of the circle, then what is no person of it."""
    need(is_telling(circle, telling), "telling")
    need(is_below(circle[1], person), "person")


def own_worth(circle, telling, person):
    """The worth of the person's granted wishes."""
    need_asked(circle, telling, person)
    return own_part(circle, telling, person, granted_lot(circle[0], telling))


def own_part(circle, telling, person, lot):
    """The worth of the person's wishes in the lot."""
    return worth_of(telling, [wish for wish in own_lot(circle, person) if wish in lot])


def without_person(circle, telling, person):
    """The best worth if all wishes of the person are refused."""
    need_asked(circle, telling, person)
    return worth_of_others(circle, telling, person)


def worth_of_others(circle, telling, person):
    """The best worth without the person, by what is known to be a telling."""
    others = without_lot(telling, own_lot(circle, person))
    return worth_of(telling, granted_among(circle[0], telling, others))


def others_lose(circle, telling, person):
    """The best worth without the person, less the worth of the others' granted wishes."""
    need_asked(circle, telling, person)
    return loss_by(circle, telling, person, granted_lot(circle[0], telling))


def loss_by(circle, telling, person, lot):
    """What the others lose by the person, by what is known to be the granted lot."""
    others = worth_of(telling, lot) - own_part(circle, telling, person, lot)
    return worth_of_others(circle, telling, person) - others


def loss_row(circle, telling):
    """What the others lose by each person."""
    need(is_telling(circle, telling), "telling")
    lot = granted_lot(circle[0], telling)
    return tuple([loss_by(circle, telling, person, lot) for person in range(circle[1])])


def loss_till(circle, telling):
    """What the others lose by all persons, added up."""
    return sum(loss_row(circle, telling))


def gain_by(circle, person, truth, told):
    """What the person gains by what is told, paying what the others lose, if truth is the truth."""
    need(is_below(circle[1], person), "person")
    need(is_telling(circle, truth), "truth")
    need(is_telling(circle, told) and is_alike(circle, person, truth, told), "told")
    lot = granted_lot(circle[0], told)
    return own_part(circle, truth, person, lot) - loss_by(circle, told, person, lot)


def is_alike(circle, person, truth, told):
    """Whether two tellings differ only at wishes of the person."""
    return all([truth[wish] == told[wish] for wish in without_lot(truth, own_lot(circle, person))])
