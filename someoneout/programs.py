"""Programs: the greatest total of costs times values, none below 0, if no row goes above its bound.

A row is a list of factors, one for each value. All numbers are integers over one common
bottom, so that nothing is rounded.
"""


def solved(costs, rows, bounds):
    """The values, then the prices of the rows, then the bottom of both; no bound is below 0.

    The prices, none below 0, are such that the bounds times them come to the greatest total,
    and that no value costs more than the prices times its factors.
    """
    table = [row + [bound] for row, bound in zip(rows, bounds)] + [[-cost for cost in costs] + [0]]
    across = list(range(len(costs)))
    down = list(range(len(costs), len(costs) + len(rows)))
    bottom = 1
    col = entering(table[-1], across)
    while col is not None:
        at = leaving(table, down, col)
        pivot = table[at][col]
        table = exchanged(table, at, col, bottom)
        bottom = pivot
        across[col], down[at] = down[at], across[col]
        col = entering(table[-1], across)
    known = [0] * (len(costs) + len(rows))
    for at, name in enumerate(down):
        known[name] = table[at][-1]
    prices = [0] * (len(costs) + len(rows))
    for col, name in enumerate(across):
        prices[name] = table[-1][col]
    return (known[:len(costs)], prices[len(costs):], bottom)


def entering(last, across):
    """The column with the least name of those that raise the total, or None."""
    # The least names, here and in leaving, keep the steps from going round for ever.
    names = [name for col, name in enumerate(across) if last[col] < 0]
    if len(names) == 0:
        return None
    return across.index(min(names))


def leaving(table, down, col):
    """The row that is the first to come to its bound if the column's value grows."""
    best = None
    for at, name in enumerate(down):
        if table[at][col] > 0:
            if best is None:
                best = at
                continue
            here = table[at][-1] * table[best][col]
            there = table[best][-1] * table[at][col]
            if here < there or (here == there and name < down[best]):
                best = at
    return best


def exchanged(table, at, col, bottom):
    """The table with the row and the column in each other's place."""
    line = table[at]
    pivot = line[col]
    fresh = []
    for other, row in enumerate(table):
        factor = row[col]
        if other == at:
            fresh.append(row[:col] + [bottom] + row[col + 1:])
        elif factor != 0:
            left = [(one * pivot - factor * two) // bottom for one, two in zip(row, line)]
            left[col] = -factor
            fresh.append(left)
        elif pivot == bottom:
            fresh.append(row)
        else:
            fresh.append([one * pivot // bottom for one in row])
    return fresh
