"""The rank of a lot, by the word of its house; the lot is known to be one of its wishes.

All houses are matroids: to take wish after wish, where that leaves the lot free, ends at
the greatest length, whatever the sequence.
"""

from someoneout.housechecker import wish_count
from someoneout.kinds import lot_number


def lot_rank(house, lot):
    """The greatest length of a free lot within the lot."""
    word = house[0]
    if word == "limits":
        return limits_rank(house[2], lot)
    if word == "slots":
        return slots_rank(house[2], lot)
    if word == "web":
        return web_rank(house[2], lot)
    if word == "rows":
        return rows_rank(house[1], house[2], lot)
    if word == "table":
        return house[2][lot_number(lot)]
    return beside_rank(house[1], lot)


def limits_rank(rows, lot):
    """Take each wish for which all limits around it have room."""
    counts = [0] * len(rows)
    rank = 0
    for wish in lot:
        around = [at for at in range(len(rows)) if wish in rows[at][0]]
        if all([counts[at] < rows[at][1] for at in around]):
            for at in around:
                counts[at] += 1
            rank += 1
    return rank


def slots_rank(rows, lot):
    """How many wishes of the lot can be seated."""
    seated = {}
    for wish in lot:
        seat_one(rows, wish, seated, {})
    return len(seated)


def seat_one(rows, wish, seated, tried):
    """Seat the wish in a slot, moving those who sit there, if that can be done."""
    for slot in rows[wish]:
        if slot in tried:
            continue
        tried[slot] = True
        if slot not in seated or seat_one(rows, seated[slot], seated, tried):
            seated[slot] = wish
            return True
    return False


def web_rank(rows, lot):
    """Take each wish whose two points are not yet joined."""
    mark = {}
    for wish in lot:
        for point in rows[wish]:
            mark[point] = point
    rank = 0
    for wish in lot:
        one, other = rows[wish]
        if mark[one] != mark[other]:
            rank += 1
            join_marks(mark, mark[one], mark[other])
    return rank


def join_marks(mark, one, other):
    """Give the mark one to all points that have the mark other."""
    for point in list(mark):
        if mark[point] == other:
            mark[point] = one


def rows_rank(prime, rows, lot):
    """Take each wish whose row is not made up by those taken, modulo prime."""
    steps = []
    for wish in lot:
        row = list(rows[wish])
        for lead, step in steps:
            row = cleared(prime, row, lead, step)
        leads = [at for at in range(len(row)) if row[at] != 0]
        if len(leads) > 0:
            steps.append((leads[0], row))
    return len(steps)


def cleared(prime, row, lead, step):
    """A multiple of the row, less one of the step, that is 0 at the lead."""
    # The row is multiplied instead of the step divided: no inverse is needed, and
    # step[lead] is not 0 modulo a prime, so that nothing is lost.
    return [(row[at] * step[lead] - row[lead] * step[at]) % prime for at in range(len(row))]


def beside_rank(houses, lot):
    """The ranks of the lot's parts, added up."""
    start = 0
    rank = 0
    for house in houses:
        behind = start + wish_count(house)
        part = tuple([wish - start for wish in lot if start <= wish < behind])
        rank = rank + lot_rank(house, part)
        start = behind
    return rank
