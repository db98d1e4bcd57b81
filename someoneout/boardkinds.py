"""Counts of rows, places, choices of the others, and shares; nothing is refused here."""

from someoneout.kinds import is_below, is_integer, is_quotient, is_tuple_of
from someoneout.quotients import added


def are_counts(thing):
    """Whether any value is a tuple of at least two integers of at least 1."""
    if not isinstance(thing, tuple) or len(thing) < 2:
        return False
    return all([is_integer(count) and count >= 1 for count in thing])


def are_worths(many, thing):
    """Whether any value is a tuple of so many integers."""
    return is_tuple_of(many, thing) and all([is_integer(worth) for worth in thing])


def place_count(counts):
    """How many places there are."""
    many = 1
    for count in counts:
        many = many * count
    return many


def rows_by(counts):
    """All tuples with a number below each count, ascending."""
    rows = [()]
    for count in counts:
        rows = [row + (number,) for row in rows for number in range(count)]
    return tuple(rows)


def is_place(counts, thing):
    """Whether any value is a tuple with a number below each count."""
    if not is_tuple_of(len(counts), thing):
        return False
    return all([is_below(count, row) for count, row in zip(counts, thing)])


def place_number(counts, place):
    """How many places stand before this one."""
    number = 0
    for count, row in zip(counts, place):
        number = number * count + row
    return number


def all_but(counts, person):
    """The same without what stands for the person: counts of the others, or their choice at a place."""
    return counts[:person] + counts[person + 1:]


def choice_numbers(counts, person):
    """For each place, by its number, the number of the choice of the person's others there."""
    others = all_but(counts, person)
    return [place_number(others, all_but(place, person)) for place in rows_by(counts)]


def are_quotients(many, thing):
    """Whether any value is a tuple of so many quotients."""
    return is_tuple_of(many, thing) and all([is_quotient(quotient) for quotient in thing])


def are_tables(counts, thing):
    """Whether any value has, for each person, a quotient for each choice of the others."""
    if not is_tuple_of(len(counts), thing):
        return False
    parts = [place_count(all_but(counts, person)) for person in range(len(counts))]
    return all([are_quotients(many, table) for many, table in zip(parts, thing)])


def are_weights(many, thing):
    """Whether any value is a tuple of so many quotients, none below 0."""
    return are_quotients(many, thing) and all([top >= 0 for top, _ in thing])


def are_shares(many, thing):
    """Whether any value is such a tuple with the sum 1."""
    return are_weights(many, thing) and added(thing) == (1, 1)


def mean_by(worths, weights):
    """The worths, each times its weight, added up."""
    return added([(worth * top, bottom) for worth, (top, bottom) in zip(worths, weights)])


def choice_sums(counts, person, weights):
    """The weights of the places of each choice of the person's others, added up."""
    parts = [[] for _ in range(place_count(all_but(counts, person)))]
    for weight, number in zip(weights, choice_numbers(counts, person)):
        parts[number].append(weight)
    return [added(part) for part in parts]


def agreement(counts, person, one, other):
    """Whether two shares agree on what the person's others tell."""
    return choice_sums(counts, person, one) == choice_sums(counts, person, other)
