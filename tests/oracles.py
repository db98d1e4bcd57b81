"""Free lots and all that hangs on them, straight from the definitions, slowly."""

from fractions import Fraction
from functools import lru_cache
from itertools import combinations, permutations, product


def size_by_words(house):
    if house[0] == "beside":
        return sum(size_by_words(part) for part in house[1])
    if house[0] in ("limits", "table"):
        return house[1]
    return len(house[2])


def lots_of(size):
    """All lots of numbers below size, ascending."""
    return sorted(lot for many in range(size + 1) for lot in combinations(range(size), many))


def number_of_lot(lot):
    return sum(2 ** wish for wish in lot)


def is_free_by_words(house, lot):
    word = house[0]
    if word == "limits":
        return all(len(set(lot) & set(row)) <= cap for row, cap in house[2])
    if word == "slots":
        return any(all(slot in house[2][wish] for slot, wish in zip(slots, lot))
                   for slots in permutations(range(house[1]), len(lot)))
    if word == "web":
        return all(len({point for wish in part for point in house[2][wish]}) > len(part)
                   for many in range(1, len(lot) + 1) for part in combinations(lot, many))
    if word == "rows":
        wide = len(house[2][0]) if house[2] else 0
        for factors in product(range(house[1]), repeat=len(lot)):
            sums = [sum(f * house[2][wish][at] for f, wish in zip(factors, lot)) for at in range(wide)]
            if any(factors) and all(number % house[1] == 0 for number in sums):
                return False
        return True
    if word == "table":
        return house[2][number_of_lot(lot)] == len(lot)
    start = 0
    for part in house[1]:
        inner = tuple(wish - start for wish in lot if start <= wish < start + size_by_words(part))
        if not is_free_by_words(part, inner):
            return False
        start += size_by_words(part)
    return True


@lru_cache(maxsize=20000)
def free_lots(house):
    return [lot for lot in lots_of(size_by_words(house)) if is_free_by_words(house, lot)]


def rank_by_free(free, lot):
    return max(len(part) for part in free if set(part) <= set(lot))


def bases_by_free(free):
    return [lot for lot in free if len(lot) == max(len(part) for part in free)]


def is_level(size, lots):
    """Whether lots are the free lots of a house: part for part, and all longest ones equally long."""
    told = set(lots)
    parts = {part for lot in told if lot for part in combinations(lot, len(lot) - 1)}
    if () not in told or not parts <= told:
        return False
    for lot in lots_of(size):
        inside = [set(part) for part in told if set(part) <= set(lot)]
        ended = [part for part in inside if not any(part < other for other in inside)]
        if len({len(part) for part in ended}) > 1:
            return False
    return True


@lru_cache(maxsize=20000)
def table_by_words(house):
    """The table with the same free lots."""
    free = free_lots(house)
    lots = sorted(lots_of(size_by_words(house)), key=number_of_lot)
    return ("table", size_by_words(house), tuple(rank_by_free(free, lot) for lot in lots))


def worth_by_words(telling, lot):
    return sum(telling[wish] for wish in lot)


def best_lots(free, telling):
    """The free lots worth most."""
    most = max(worth_by_words(telling, lot) for lot in free)
    return [lot for lot in free if worth_by_words(telling, lot) == most]


def granted_by_words(free, telling):
    taken = ()
    for wish in sorted(range(len(telling)), key=lambda one: (-telling[one], one)):
        if tuple(sorted(taken + (wish,))) in free:
            taken = tuple(sorted(taken + (wish,)))
    return taken


def covers_by_free(free, lot, wish):
    return rank_by_free(free, set(lot) | {wish}) == rank_by_free(free, lot)


def gate_by_free(free, telling, wish):
    """The least of all numbers that could be one; only worths and 0 can be least."""
    if (wish,) not in free:
        return None
    others = [other for other in range(len(telling)) if other != wish]
    gates = [gate for gate in {0} | {telling[other] for other in others}
             if not covers_by_free(free, [other for other in others if telling[other] > gate], wish)]
    return min(gates)


def rings_by_free(size, free):
    """Lots that are not free, while all smaller lots within them are; ascending."""
    return [lot for lot in lots_of(size) if lot not in free
            and all(part in free for many in range(len(lot)) for part in combinations(lot, many))]


def pieces_by_rings(size, rings):
    """Wishes put together with all that shares a ring with them, over others or not."""
    pieces = {wish: {wish} for wish in range(size)}
    for _ in range(size):
        for wish in range(size):
            for ring in rings:
                if pieces[wish] & set(ring):
                    pieces[wish] |= set(ring)
    return tuple(sorted({tuple(sorted(piece)) for piece in pieces.values()}))


def sign_of(many):
    return -1 if many % 2 else 1


def cut_by_free(size, free, base, wish):
    """All wishes that can be put in the place of the wish so that there is a base again."""
    bases = bases_by_free(free)
    rest = set(base) - {wish}
    return [other for other in range(size) if tuple(sorted(rest | {other})) in bases]


def ring_by_free(size, free, lot, wish):
    """The one ring within the lot and the wish together."""
    both = set(lot) | {wish}
    return [ring for ring in rings_by_free(size, free) if set(ring) <= both][0]


def zones_by_words(circle):
    ends = sorted({end for stretch in circle[3] for end in stretch})
    return list(zip(ends, ends[1:]))


def zone_parts_by_words(circle, zone):
    """The high wishes and the open ones."""
    s, t = zone
    high = [wish for wish, (low, _) in enumerate(circle[3]) if low >= t]
    between = [wish for wish, (low, top) in enumerate(circle[3]) if low < t and top > s]
    return high, between


def zone_ranks_by_words(circle, zone):
    """A function that tells the rank of a lot of open wishes in the zone house."""
    ranks = table_by_words(circle[0])[2]
    high, _ = zone_parts_by_words(circle, zone)
    above = number_of_lot(high)
    return lambda lot: ranks[above + number_of_lot(lot)] - ranks[above]


def zone_pieces_by_words(circle, zone):
    """The pieces of the zone house by all its rings, told by the numbers of the circle."""
    rank = zone_ranks_by_words(circle, zone)
    _, between = zone_parts_by_words(circle, zone)
    many = len(between)
    free = [lot for lot in lots_of(many) if rank([between[at] for at in lot]) == len(lot)]
    pieces = pieces_by_rings(many, rings_by_free(many, free))
    return [tuple(between[at] for at in piece) for piece in pieces]


def is_full_by_words(circle, lot):
    return {circle[2][wish] for wish in lot} == set(range(circle[1]))


@lru_cache(maxsize=20000)
def full_zones_by_words(circle):
    return tuple((zone, piece) for zone in zones_by_words(circle) for piece in zone_pieces_by_words(circle, zone)
                 if is_full_by_words(circle, piece))


def best_by_words(free, telling):
    return max(worth_by_words(telling, lot) for lot in free)


def cube_by_words(circle, here, there):
    """The mixed difference of the best worth, lot of persons by lot."""
    free = free_lots(circle[0])
    total = 0
    for lot in lots_of(circle[1]):
        telling = [there[wish] if owner in lot else here[wish] for wish, owner in enumerate(circle[2])]
        total += sign_of(circle[1] - len(lot)) * best_by_words(free, telling)
    return total


def end_tellings_by_words(circle):
    ends = sorted({end for stretch in circle[3] for end in stretch})
    return list(product(*[[end for end in ends if low <= end <= high] for low, high in circle[3]]))


def signed_by_words(ranks):
    """The signed sum by the ranks of all lots, by their numbers."""
    return sum(sign_of(bin(number).count("1")) * rank for number, rank in enumerate(ranks))


def kept_ranks(ranks, lot):
    """The ranks of the lots within the lot, as if it were kept."""
    lots = sorted(lots_of(len(lot)), key=number_of_lot)
    return [ranks[sum(2 ** lot[at] for at in part)] for part in lots]


def left_ranks(ranks, promised, left):
    """The ranks of the lots within left, if the free lot promised is granted in any case."""
    before = number_of_lot(promised)
    lots = sorted(lots_of(len(left)), key=number_of_lot)
    return [ranks[before + sum(2 ** left[at] for at in part)] - len(promised) for part in lots]


def free_by_ranks(ranks):
    size = len(ranks).bit_length() - 1
    return [lot for lot in lots_of(size) if ranks[number_of_lot(lot)] == len(lot)]


def pieces_by_ranks(ranks):
    size = len(ranks).bit_length() - 1
    return pieces_by_rings(size, rings_by_free(size, free_by_ranks(ranks)))


def fraction_of(quotient):
    return Fraction(quotient[0], quotient[1])


def quotient_by(fraction):
    return (fraction.numerator, fraction.denominator)


@lru_cache(maxsize=20000)
def places_by_words(counts):
    return list(product(*[range(count) for count in counts]))


def others_at(place, person):
    return place[:person] + place[person + 1:]


@lru_cache(maxsize=20000)
def choices_by_words(counts, person):
    return list(product(*[range(count) for at, count in enumerate(counts) if at != person]))


def worths_by_place(board):
    return dict(zip(places_by_words(board[0]), board[1]))


def mixed_by_words(board, here, there):
    worths = worths_by_place(board)
    people = len(board[0])
    return sum(sign_of(people - len(lot)) * worths[tuple(there[i] if i in lot else here[i] for i in range(people))]
               for lot in lots_of(people))


def dues_by_words(board, tables, place):
    """The dues at the place, as fractions."""
    return [fraction_of(tables[person][choices_by_words(board[0], person).index(others_at(place, person))])
            for person in range(len(board[0]))]


def tills_by_words(board, tables):
    worths = worths_by_place(board)
    choices = [{choice: at for at, choice in enumerate(choices_by_words(board[0], person))}
               for person in range(len(board[0]))]
    return [sum(fraction_of(tables[i][choices[i][others_at(place, i)]]) for i in range(len(tables)))
            - (len(tables) - 1) * worth for place, worth in worths.items()]


def span_by_words(board, tables):
    tills = tills_by_words(board, tables)
    return max(tills) - min(tills)


def choice_sums_by_words(board, person, weights):
    sums = {choice: Fraction(0) for choice in choices_by_words(board[0], person)}
    for place, weight in zip(places_by_words(board[0]), weights):
        sums[others_at(place, person)] += weight
    return sums


@lru_cache(maxsize=20000)
def rows_by_words(circle, person):
    """All rows of the person in end tellings, ascending."""
    own = [wish for wish, owner in enumerate(circle[2]) if owner == person]
    return sorted({tuple(telling[wish] for wish in own) for telling in end_tellings_by_words(circle)})


@lru_cache(maxsize=20000)
def telling_by_words(circle, place):
    """The end telling for which the place stands."""
    telling = [None] * len(circle[2])
    for person, at in enumerate(place):
        own = [wish for wish, owner in enumerate(circle[2]) if owner == person]
        for wish, worth in zip(own, rows_by_words(circle, person)[at]):
            telling[wish] = worth
    return tuple(telling)


@lru_cache(maxsize=20000)
def board_by_words(circle):
    counts = tuple(len(rows_by_words(circle, person)) for person in range(circle[1]))
    free = free_lots(circle[0])
    return counts, tuple(best_by_words(free, telling_by_words(circle, place)) for place in places_by_words(counts))


def mixture_by_words(circle, telling):
    """For each stretch of cuts from 1 down, the end telling that comes at its middle, and its length."""
    ends = sorted({end for stretch in circle[3] for end in stretch})
    ways = []
    for worth in telling:
        s = max(end for end in ends if end <= worth)
        t = min(end for end in ends if end >= worth)
        ways.append((s, t, Fraction(worth - s, t - s) if t > s else Fraction(0)))
    steps = sorted({Fraction(0), Fraction(1)} | {lift for _, _, lift in ways}, reverse=True)
    pairs = []
    for top, low in zip(steps, steps[1:]):
        cut = (top + low) / 2
        pairs.append((tuple(t if lift >= cut else s for s, t, lift in ways), quotient_by(top - low)))
    return tuple(pairs)


def own_by_words(circle, person):
    return [wish for wish, owner in enumerate(circle[2]) if owner == person]


@lru_cache(maxsize=20000)
def pieces_by_words(house):
    """The pieces by all rings."""
    size = size_by_words(house)
    return pieces_by_rings(size, rings_by_free(size, free_lots(house)))


def within_by_words(free, telling, lot):
    """The best worth of a lot."""
    return max(worth_by_words(telling, part) for part in free if set(part) <= set(lot))


def handed_by_words(circle, telling):
    """What each pays, piece by piece, the taker getting the sum."""
    free = free_lots(circle[0])
    lot = granted_by_words(free, telling)
    payments = [0] * circle[1]
    for piece in pieces_by_words(circle[0]):
        taker = min(set(range(circle[1])) - {circle[2][wish] for wish in piece})
        for person in set(range(circle[1])) - {taker}:
            own = set(own_by_words(circle, person))
            others = worth_by_words(telling, set(lot) & set(piece) - own)
            paid = within_by_words(free, telling, set(piece) - own) - others
            payments[person] += paid
            payments[taker] -= paid
    return tuple(payments)


def mean_by_words(circle, values, telling):
    """The mean over the mixture of the fractions that stand for the end tellings."""
    return sum((values[end] * fraction_of(weight) for end, weight in mixture_by_words(circle, telling)), Fraction(0))


def pool_lots(people):
    return sorted(lots_of(people), key=number_of_lot)


def all_units(pool):
    """All granted units, by trying all tuples of numbers."""
    people = len(pool[1])
    lots = [(lot, pool[0][number_of_lot(lot)]) for lot in lots_of(people)]
    tops = [pool[0][2 ** person] for person in range(people)]
    return [units for units in product(*[range(top + 1) for top in tops])
            if all(sum(units[person] for person in lot) <= most for lot, most in lots)]


def pool_worth_by_words(units, telling):
    return max(sum(worth * got for worth, got in zip(telling, row)) for row in units)


def draws_by_words(odds):
    """All tellings that can be drawn with their chances."""
    totals = [sum(weight for _, weight in part) for part in odds]
    for pairs in product(*odds):
        chance = Fraction(1)
        for (_, weight), total in zip(pairs, totals):
            chance *= Fraction(weight, total)
        yield tuple(worth for worth, _ in pairs), chance
