"""Papers that a circle does not stay: two tellings with a mixed difference that is not 0."""

from someoneout.carving import carved
from someoneout.circles import is_telling
from someoneout.demands import demand, need
from someoneout.errors import Staying
from someoneout.grantrules import worth_by_ranks
from someoneout.housechanges import kept_house
from someoneout.kinds import is_tuple_of
from someoneout.leavings import full_zones
from someoneout.ranks import rank_table
from someoneout.signs import mixed_total, moved
from someoneout.zonehouses import zone_house
from someoneout.zones import zone_lots


def break_paper(circle):
    """Any two end tellings, unlike in a wish of each person, whose difference is not 0; Staying if there are none."""
    full = full_zones(circle)
    if len(full) == 0:
        raise Staying(circle[1])
    zone, piece = full[0]
    movers = first_wishes(circle, piece)
    # Left in one piece, the movers have a number that is not 0; the zone's height times it is the difference.
    lifted = lifted_wishes(circle, zone, piece, movers)
    here = told_in(circle, zone, lifted)
    return (here, told_in(circle, zone, lifted + movers))


def first_wishes(circle, lot):
    """The lot of each person's first wish in the lot, which leaves nobody out."""
    people, owners = circle[1:3]
    first = [[wish for wish in lot if owners[wish] == person][0] for person in range(people)]
    return tuple(sorted(first))


def lifted_wishes(circle, zone, piece, movers):
    """What must be promised so that, all else of the piece refused, the movers are left in one piece."""
    between = zone_lots(circle, zone)[2]
    house = kept_house(zone_house(circle, zone), places_in(between, piece))
    promised, _ = carved(house, places_in(piece, movers))
    return tuple([piece[at] for at in promised])


def places_in(lot, part):
    """The places of the part's wishes in the lot."""
    return tuple([at for at, wish in enumerate(lot) if wish in part])


def told_in(circle, zone, lifted):
    """The end telling with the open wishes at the zone's lower end, but the lifted ones at its upper end."""
    above, below, _ = zone_lots(circle, zone)
    telling = []
    for wish, (low, high) in enumerate(circle[3]):
        if wish in above:
            telling.append(low)
        elif wish in below:
            telling.append(high)
        else:
            telling.append(zone[1] if wish in lifted else zone[0])
    return tuple(telling)


def cube_difference(circle, here, there):
    """The mixed difference of the best worth between two tellings."""
    need(is_telling(circle, here), "here")
    need(is_telling(circle, there), "there")
    return cube_total(circle, here, there)


def cube_total(circle, here, there):
    """The mixed difference, by what are known to be tellings."""
    house, people, owners, _ = circle
    movers = [owner for at, owner in enumerate(owners) if here[at] != there[at]]
    # With somebody who tells the same in both, all worths cancel.
    if len(set(movers)) < people:
        return 0
    ranks = rank_table(house)
    tellings = [moved(owners, here, there, number) for number in range(1 << people)]
    return mixed_total([worth_by_ranks(ranks, telling) for telling in tellings])


def lets_break(circle, thing):
    """The mixed difference of two tellings; InvalidPaper if it is 0."""
    demand(is_tuple_of(2, thing), "shape", -1)
    here, there = thing
    demand(is_telling(circle, here), "here", -1)
    demand(is_telling(circle, there), "there", -1)
    difference = cube_total(circle, here, there)
    demand(difference != 0, "zero", -1)
    return difference
