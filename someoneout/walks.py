"""Walks on boards of two persons, and their means."""

from someoneout.boardkinds import is_place, place_number
from someoneout.demands import demand, need
from someoneout.quotients import is_less, least_of, reduced


def need_two(board):
    """Refuse a board that is not one of two persons."""
    need(len(board[0]) == 2, "board")


def best_walk(board):
    """Any walk with the greatest mean."""
    need_two(board)
    steps = best_steps(board)
    rows = round_on(longest_walk(steps))
    return tuple([(row, steps[row][behind][1]) for row, behind in zip(rows, rows[1:] + rows[:1])])


def best_steps(board):
    """For each row of the first person and each one behind it: the most that the step adds, and the other's row."""
    (many, more), worths = board
    steps = []
    for row in range(many):
        ways = []
        for behind in range(many):
            adds = [(worths[row * more + at] - worths[behind * more + at], at) for at in range(more)]
            ways.append(max(adds))
        steps.append(ways)
    return steps


def longest_walk(steps):
    """The rows of a walk on which each round has the greatest mean.

    By Karp's rule: of the walks from row 0 with as many steps as there are rows, each worth most
    for its last row, it is the one of which the worst shorter walk leaves most for the steps behind.
    """
    many = len(steps)
    sums = [[0] + [None] * (many - 1)]
    back = []
    for at in range(many):
        pairs = [best_before(sums[at], steps, row) for row in range(many)]
        sums.append([total for total, _ in pairs])
        back.append([before for _, before in pairs])
    rows = [last_row(sums)]
    for before in reversed(back):
        rows.append(before[rows[-1]])
    return rows[::-1]


def best_before(sums, steps, row):
    """The most that a walk with one step more adds up to at the row, and the row before it."""
    return max([(total + steps[before][row][0], before) for before, total in enumerate(sums) if total is not None])


def last_row(sums):
    """The row where the least mean of what the whole walk adds behind a shorter one is greatest."""
    least = [least_behind(sums, row) for row in range(len(sums) - 1)]
    last = 0
    for row, mean in enumerate(least):
        if is_less(least[last], mean):
            last = row
    return last


def least_behind(sums, row):
    """The least mean of what the whole walk to the row adds behind a shorter one."""
    many = len(sums) - 1
    shorter = [at for at in range(many) if sums[at][row] is not None]
    return least_of([reduced(sums[many][row] - sums[at][row], many - at) for at in shorter])


def round_on(rows):
    """The first round on the walk: from a row to where it comes again."""
    for at, row in enumerate(rows):
        if row in rows[:at]:
            return rows[rows.index(row):at]
    return rows


def lets_walk(board, thing):
    """The mean of the walk; InvalidPaper if it is none."""
    need_two(board)
    counts, worths = board
    demand(isinstance(thing, tuple) and len(thing) > 0, "shape", -1)
    for at, place in enumerate(thing):
        demand(is_place(counts, place), "place", at)
    total = 0
    for (row, other), (behind, _) in zip(thing, thing[1:] + thing[:1]):
        total += worths[place_number(counts, (row, other))] - worths[place_number(counts, (behind, other))]
    return reduced(total, len(thing))
