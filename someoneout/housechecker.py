"""Whether any value is a house, and the first thing that is wrong if it is none."""

from someoneout.demands import demand
from someoneout.errors import InvalidPaper
from someoneout.kinds import is_below, is_lot, is_number, is_tuple_of, lot_by

WORDS = ("limits", "slots", "web", "rows", "table", "beside")
PRIMES = (2, 3, 5, 7)
GREATEST_TABLE = 12


def is_house(thing):
    """Whether any value is a house."""
    try:
        lets_house(thing)
    except InvalidPaper:
        return False
    return True


def lets_house(thing):
    """How many wishes the house has; InvalidPaper if it is none."""
    demand(has_shape(thing), "shape", -1)
    if thing[0] == "beside":
        check_beside(thing[1])
    else:
        demand(is_second(thing[0], thing[1]), "size", -1)
        demand(are_rows(thing[0], thing[1], thing[2]), "rows", -1)
        check_rows(thing[0], thing[1], thing[2])
    return wish_count(thing)


def wish_count(house):
    """How many wishes there are in what is known to be a house."""
    if house[0] == "beside":
        return sum([wish_count(part) for part in house[1]])
    if house[0] == "limits" or house[0] == "table":
        return house[1]
    return len(house[2])


def has_shape(thing):
    """Whether it is a tuple of one of the words and as many things as the word asks for."""
    if not isinstance(thing, tuple) or len(thing) == 0:
        return False
    if thing[0] not in WORDS:
        return False
    return len(thing) == (2 if thing[0] == "beside" else 3)


def is_second(word, thing):
    """Whether any value can be the second thing of a house of this word."""
    if not is_number(thing):
        return False
    if word == "rows":
        return thing in PRIMES
    return word != "table" or thing <= GREATEST_TABLE


def are_rows(word, size, thing):
    """Whether any value can be the last thing, whatever its rows are."""
    if word == "table":
        return is_tuple_of(1 << size, thing)
    return isinstance(thing, tuple)


def check_beside(houses):
    """Each house by itself; one of "beside" does not stand beside others."""
    demand(isinstance(houses, tuple) and len(houses) >= 2, "rows", -1)
    for at, house in enumerate(houses):
        plain = has_shape(house) and house[0] != "beside"
        demand(plain and is_house(house), "row", at)


def check_rows(word, size, rows):
    """Row by row; a limit is also held against the limits before it."""
    for at in range(len(rows)):
        demand(is_row(word, size, rows, at), "row", at)
        if word == "limits":
            demand(is_uncrossed(rows, at), "cross", at)


def is_row(word, size, rows, at):
    """Whether the row at this place is as a house of this word has it."""
    if word == "limits":
        return is_limit(size, rows[at])
    if word == "slots":
        return is_lot(size, rows[at])
    if word == "web":
        return is_link(size, rows[at])
    if word == "rows":
        return is_line(size, rows, at)
    return is_rank(rows, at)


def is_limit(size, row):
    """Whether any value is a pair of a lot, not (), and a cap."""
    if not is_tuple_of(2, row):
        return False
    return is_lot(size, row[0]) and len(row[0]) > 0 and is_number(row[1])


def is_uncrossed(rows, at):
    """Whether the lot of a limit is unlike, and beside or within or around, each earlier one."""
    lot = rows[at][0]
    for other, _ in rows[:at]:
        common = len(set(lot) & set(other))
        if common != 0 and common != len(lot) and common != len(other):
            return False
        if lot == other:
            return False
    return True


def is_link(points, row):
    """Whether any value is a pair of points, the first at most the last."""
    if not is_tuple_of(2, row):
        return False
    return is_below(points, row[0]) and is_below(points, row[1]) and row[0] <= row[1]


def is_line(prime, rows, at):
    """Whether a row has numbers below prime, as many as the first row."""
    row = rows[at]
    # The first row is known to be a tuple here: it was the first to be checked.
    if not isinstance(row, tuple) or len(row) != len(rows[0]):
        return False
    return all([is_below(prime, number) for number in row])


def is_rank(ranks, number):
    """Whether a lot's rank goes with those of the lots within it, which are in order."""
    rank = ranks[number]
    if not is_number(rank):
        return False
    if number == 0:
        return rank == 0
    bits = [1 << wish for wish in lot_by(number)]
    for one in bits:
        if rank - ranks[number - one] not in (0, 1):
            return False
        for other in bits:
            if other < one and adds_late(ranks, number, one, other):
                return False
    return True


def adds_late(ranks, number, one, other):
    """Whether two wishes that each add 0 to the rest of the lot add something together."""
    rest = ranks[number - one - other]
    return ranks[number - one] == rest and ranks[number - other] == rest and ranks[number] != rest
