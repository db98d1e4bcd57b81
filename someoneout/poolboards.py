"""The board of a pool, its number, and its least span."""

from someoneout.boardkinds import rows_by
from someoneout.circles import ends_by, is_in
from someoneout.grantrules import worth_by_ranks
from someoneout.quotients import reduced
from someoneout.signs import signed_total


def pool_rows(pool):
    """For each person all ends in their stretch, ascending."""
    ends = ends_by(pool[1])
    return [tuple([end for end in ends if is_in(stretch, end)]) for stretch in pool[1]]


def pool_told(rows, place):
    """The end telling for which the place stands."""
    return tuple([own[row] for own, row in zip(rows, place)])


def pool_counts(pool):
    """How many rows each person has."""
    return tuple([len(own) for own in pool_rows(pool)])


def pool_board(pool):
    """The board of the pool."""
    rows = pool_rows(pool)
    counts = tuple([len(own) for own in rows])
    worths = [worth_by_ranks(pool[0], pool_told(rows, place)) for place in rows_by(counts)]
    return (counts, tuple(worths))


def pool_signed(pool):
    """The units of all lots, added up; the sign changes for each person of the lot."""
    return signed_total(pool[0])


def pool_number(pool):
    """The number of the pool's units."""
    return abs(pool_signed(pool))


def common_length(pool):
    """The length of the common stretch."""
    return max(0, min([high for _, high in pool[1]]) - max([low for low, _ in pool[1]]))


def pool_stays(pool):
    """Whether a safe rule has till 0 always."""
    return pool_number(pool) == 0 or common_length(pool) == 0


def pool_span(pool):
    """The least span of all safe rules."""
    rest = len(pool[1]) - 1
    return reduced(pool_number(pool) * common_length(pool) * rest, 1 << rest)


def cost_difference(costs):
    """Differences of neighbours, taken from the sorted costs until one integer is left, without its sign."""
    row = sorted(costs)
    while len(row) > 1:
        row = [row[at + 1] - row[at] for at in range(len(row) - 1)]
    return abs(row[0])
