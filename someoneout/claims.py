"""Claims: what others say that each person gains, at all places of a circle's board."""

from someoneout.boardkinds import are_quotients, are_tables, choice_numbers, place_count, rows_by
from someoneout.circles import is_telling
from someoneout.demands import need
from someoneout.endboards import all_rows, counts_of, told_by
from someoneout.grantrules import granted_lot, worth_of
from someoneout.kinds import is_below, is_number, is_tuple_of
from someoneout.mixtures import mean_over
from someoneout.others import is_alike, own_part
from someoneout.quotients import minus, plus, reduced


def is_claim(circle, thing):
    """Whether any value has, for each person, an amount for each place."""
    many = place_count(counts_of(circle))
    return is_tuple_of(circle[1], thing) and all([are_quotients(many, amounts) for amounts in thing])


def claim_of(circle, tables):
    """The claim whose amounts are the dues."""
    counts = counts_of(circle)
    need(are_tables(counts, tables), "tables")
    claim = []
    for person, table in enumerate(tables):
        claim.append(tuple([table[number] for number in choice_numbers(counts, person)]))
    return tuple(claim)


def claim_by(circle, payments):
    """The claim with the gains of those who pay this at the places, for the granted lot."""
    need(is_claim(circle, payments), "payments")
    rows = all_rows(circle)
    claim = [[] for _ in payments]
    for at, place in enumerate(rows_by([len(own) for own in rows])):
        telling = told_by(circle, rows, place)
        lot = granted_lot(circle[0], telling)
        for person, paid in enumerate(payments):
            others = worth_of(telling, lot) - own_part(circle, telling, person, lot)
            claim[person].append(plus((others, 1), paid[at]))
    return tuple([tuple(amounts) for amounts in claim])


def gain_told(circle, claim, person, truth, told):
    """What the person gains by what is told, if truth is the truth."""
    need(is_claim(circle, claim), "claim")
    need(is_below(circle[1], person), "person")
    need(is_telling(circle, truth), "truth")
    need(is_telling(circle, told) and is_alike(circle, person, truth, told), "told")
    lot = granted_lot(circle[0], told)
    more = own_part(circle, truth, person, lot) - own_part(circle, told, person, lot)
    return minus((worth_of(told, lot) + more, 1), mean_over(circle, claim[person], told))


def times_all(claim, many):
    """The tuples with each quotient times many."""
    need(is_number(many), "many")
    return tuple([tuple([reduced(top * many, bottom) for top, bottom in amounts]) for amounts in claim])
