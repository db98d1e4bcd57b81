"""Free lots and all that hangs on them, straight from the definitions, slowly."""

from itertools import combinations, permutations, product


def size_by_words(house):
    if house[0] == "beside":
        return sum(size_by_words(part) for part in house[1])
    if house[0] in ("limits", "table"):
        return house[1]
    return len(house[2])


def lots_of(size):
    """All lots of numbers below size, ascending."""
    return sorted(lot for many in range(size + 1) for lot in combinations(range(size), many))


def number_of_lot(lot):
    return sum(2 ** wish for wish in lot)


def is_free_by_words(house, lot):
    word = house[0]
    if word == "limits":
        return all(len(set(lot) & set(row)) <= cap for row, cap in house[2])
    if word == "slots":
        return any(all(slot in house[2][wish] for slot, wish in zip(slots, lot))
                   for slots in permutations(range(house[1]), len(lot)))
    if word == "web":
        return all(len({point for wish in part for point in house[2][wish]}) > len(part)
                   for many in range(1, len(lot) + 1) for part in combinations(lot, many))
    if word == "rows":
        wide = len(house[2][0]) if house[2] else 0
        for factors in product(range(house[1]), repeat=len(lot)):
            sums = [sum(f * house[2][wish][at] for f, wish in zip(factors, lot)) for at in range(wide)]
            if any(factors) and all(number % house[1] == 0 for number in sums):
                return False
        return True
    if word == "table":
        return house[2][number_of_lot(lot)] == len(lot)
    start = 0
    for part in house[1]:
        inner = tuple(wish - start for wish in lot if start <= wish < start + size_by_words(part))
        if not is_free_by_words(part, inner):
            return False
        start += size_by_words(part)
    return True


def free_lots(house):
    return [lot for lot in lots_of(size_by_words(house)) if is_free_by_words(house, lot)]


def rank_by_free(free, lot):
    return max(len(part) for part in free if set(part) <= set(lot))


def bases_by_free(free):
    return [lot for lot in free if len(lot) == max(len(part) for part in free)]


def is_level(size, lots):
    """Whether lots are the free lots of a house: part for part, and all longest ones equally long."""
    told = set(lots)
    parts = {part for lot in told if lot for part in combinations(lot, len(lot) - 1)}
    if () not in told or not parts <= told:
        return False
    for lot in lots_of(size):
        inside = [set(part) for part in told if set(part) <= set(lot)]
        ended = [part for part in inside if not any(part < other for other in inside)]
        if len({len(part) for part in ended}) > 1:
            return False
    return True


def table_by_words(house):
    """The table with the same free lots."""
    free = free_lots(house)
    lots = sorted(lots_of(size_by_words(house)), key=number_of_lot)
    return ("table", size_by_words(house), tuple(rank_by_free(free, lot) for lot in lots))


def worth_by_words(telling, lot):
    return sum(telling[wish] for wish in lot)


def best_lots(free, telling):
    """The free lots worth most."""
    most = max(worth_by_words(telling, lot) for lot in free)
    return [lot for lot in free if worth_by_words(telling, lot) == most]


def granted_by_words(free, telling):
    taken = ()
    for wish in sorted(range(len(telling)), key=lambda one: (-telling[one], one)):
        if tuple(sorted(taken + (wish,))) in free:
            taken = tuple(sorted(taken + (wish,)))
    return taken


def covers_by_free(free, lot, wish):
    return rank_by_free(free, set(lot) | {wish}) == rank_by_free(free, lot)


def gate_by_free(free, telling, wish):
    """The least of all numbers that could be one; only worths and 0 can be least."""
    if (wish,) not in free:
        return None
    others = [other for other in range(len(telling)) if other != wish]
    gates = [gate for gate in {0} | {telling[other] for other in others}
             if not covers_by_free(free, [other for other in others if telling[other] > gate], wish)]
    return min(gates)


def rings_by_free(size, free):
    """Lots that are not free, while all smaller lots within them are; ascending."""
    return [lot for lot in lots_of(size) if lot not in free
            and all(part in free for many in range(len(lot)) for part in combinations(lot, many))]


def pieces_by_rings(size, rings):
    """Wishes put together with all that shares a ring with them, over others or not."""
    pieces = {wish: {wish} for wish in range(size)}
    for _ in range(size):
        for wish in range(size):
            for ring in rings:
                if pieces[wish] & set(ring):
                    pieces[wish] |= set(ring)
    return tuple(sorted({tuple(sorted(piece)) for piece in pieces.values()}))
