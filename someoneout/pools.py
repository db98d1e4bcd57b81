"""Making pools: queues, desks, and wants for seats."""

from someoneout.circlekinds import are_stretches
from someoneout.demands import need
from someoneout.kinds import is_number, lot_by


def lots_by_number(many):
    """The lots of so many persons, by their numbers."""
    return [lot_by(number) for number in range(1 << many)]


def queue_pool(costs, stretches):
    """The pool of persons who wait in a queue, and whose costs are these."""
    need(are_stretches(len(costs), stretches), "stretches")
    ordered = sorted(costs)
    saved = [0]
    for cost in ordered:
        saved.append(saved[-1] + ordered[-1] - cost)
    return (tuple([saved[len(lot)] for lot in lots_by_number(len(costs))]), stretches)


def desk_pool(lengths, stretches):
    """The pool of persons whose jobs at a desk have these lengths."""
    need(are_stretches(len(lengths), stretches), "stretches")
    return (tuple([minutes_saved(lengths, lot) for lot in lots_by_number(len(lengths))]), stretches)


def minutes_saved(lengths, lot):
    """The length of each job of the lot times what is left of all lengths when it is done, added up."""
    left = sum(lengths)
    saved = 0
    for person in lot:
        left -= lengths[person]
        saved += lengths[person] * left
    return saved


def wants_pool(wants, seats, stretches):
    """The pool of persons who want so many seats each, of which there are some."""
    need(is_number(seats), "seats")
    need(are_stretches(len(wants), stretches), "stretches")
    units = [min(seats, sum([wants[person] for person in lot])) for lot in lots_by_number(len(wants))]
    return (tuple(units), stretches)
