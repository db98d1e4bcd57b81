"""Whether lots that are told are the free lots of a house."""

from someoneout.demands import demand, need
from someoneout.errors import Unlevel
from someoneout.kinds import is_lot, is_tuple_of, lot_by, lot_number


def level_fault(size, lots):
    """None if the told lots are the free lots of a house, else why not."""
    need(are_told(size, lots), "lots")
    fault = part_fault(lots)
    if fault is None:
        fault = length_fault(size, lots)
    return fault


def are_told(size, thing):
    """Whether any value is an ascending tuple of lots of numbers below size, with ()."""
    if not isinstance(thing, tuple) or not all([is_lot(size, lot) for lot in thing]):
        return False
    if not all([thing[at] < thing[at + 1] for at in range(len(thing) - 1)]):
        return False
    return () in thing


def parts_of(lot):
    """All lots with one wish of the lot less, ascending."""
    # To drop the last wish leaves the first lot, as Python sorts.
    return [lot[:at] + lot[at + 1:] for at in range(len(lot) - 1, -1, -1)]


def part_fault(lots):
    """The first told lot that lacks a part, with its first part that is not told."""
    told = {lot: True for lot in lots}
    for lot in lots:
        for part in parts_of(lot):
            if part not in told:
                return ("part", lot, part)
    return None


def length_fault(size, lots):
    """Two told lots of unlike lengths that nothing told within some lot makes longer."""
    told = {lot_number(lot): True for lot in lots}
    for number in range(1 << size):
        ended = [inner for inner in told if is_ended(told, number, inner)]
        for other in ended:
            if len(lot_by(other)) != len(lot_by(ended[0])):
                return ("level", lot_by(number), lot_by(ended[0]), lot_by(other))
    return None


def is_ended(told, number, inner):
    """Whether a told lot lies within the lot, and no further wish of that one can be put to it."""
    # One more wish is enough to look at: no told lot lacks a part here.
    if number & inner != inner:
        return False
    return all([inner + (1 << wish) not in told for wish in lot_by(number - inner)])


def lets_fault(size, lots, thing):
    """How many wishes the lot of the fault has; InvalidPaper if it is no fault."""
    need(are_told(size, lots), "lots")
    demand(is_fault_form(size, thing), "shape", -1)
    if thing[0] == "part":
        check_part(lots, thing[1], thing[2])
    else:
        check_level(lots, thing[1], thing[2], thing[3])
    return len(thing[1])


def is_fault_form(size, thing):
    """Whether any value is one of both words with its lots."""
    if not isinstance(thing, tuple) or len(thing) == 0:
        return False
    if thing[0] == "part":
        many = 3
    elif thing[0] == "level":
        many = 4
    else:
        return False
    return is_tuple_of(many, thing) and all([is_lot(size, lot) for lot in thing[1:]])


def check_part(lots, lot, part):
    """The lot is told, and lacks this part."""
    demand(lot in lots, "told", -1)
    demand(part not in lots and part in parts_of(lot), "part", -1)


def check_level(lots, lot, one, other):
    """Both are told and as long as can be within the lot, but not equally long."""
    demand(one in lots and other in lots, "told", -1)
    demand(is_within(one, lot) and is_within(other, lot), "within", -1)
    inside = [inner for inner in lots if is_within(inner, lot)]
    demand(not is_shorter(inside, one) and not is_shorter(inside, other), "greater", -1)
    demand(len(one) != len(other), "length", -1)


def is_within(lot, other):
    """Whether each wish of the lot is in the other one."""
    return all([wish in other for wish in lot])


def is_shorter(lots, lot):
    """Whether the lot lies within a longer one of these."""
    return any([len(longer) > len(lot) and is_within(lot, longer) for longer in lots])


def house_by_lots(size, lots):
    """The table house whose free lots are those told."""
    fault = level_fault(size, lots)
    if fault is not None:
        raise Unlevel(fault)
    told = {lot_number(lot): len(lot) for lot in lots}
    ranks = []
    for number in range(1 << size):
        within = [ranks[number - (1 << wish)] for wish in lot_by(number)]
        ranks.append(told[number] if number in told else max(within))
    return ("table", size, tuple(ranks))
