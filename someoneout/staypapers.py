"""Papers that a circle stays: zone by zone, lots that no ring crosses, and whom each leaves out."""

from someoneout.circles import left_out
from someoneout.demands import demand
from someoneout.errors import Full
from someoneout.kinds import is_below, is_lot, is_tuple_of
from someoneout.zonehouses import ranks_behind, zone_pieces
from someoneout.zones import zone_lots, zones_of


def stay_paper(circle):
    """Any stay paper; Full with the first zone and piece that leaves nobody out."""
    return tuple([pairs_in(circle, zone) for zone in zones_of(circle)])


def pairs_in(circle, zone):
    """The pieces of the zone, each with the first person whom it leaves out."""
    pairs = []
    for piece in zone_pieces(circle, zone):
        people = left_out(circle, piece)
        if len(people) == 0:
            raise Full(zone, piece)
        pairs.append((piece, people[0]))
    return tuple(pairs)


def lets_stay(circle, thing):
    """How many zones there are; InvalidPaper if thing is no stay paper."""
    zones = zones_of(circle)
    demand(is_tuple_of(len(zones), thing), "shape", -1)
    for at, zone in enumerate(zones):
        check_zone(circle, zone, thing[at], at)
    return len(zones)


def check_zone(circle, zone, pairs, at):
    """The lots part the open wishes, leave their persons out, and no ring crosses them."""
    house, people, owners, _ = circle
    above, _, between = zone_lots(circle, zone)
    demand(are_parts(len(owners), people, between, pairs), "parts", at)
    for lot, person in pairs:
        demand(person not in [owners[wish] for wish in lot], "person", at)
    ranks = ranks_behind(house, above, [between] + [lot for lot, _ in pairs])
    demand(ranks[0] == sum(ranks[1:]), "ranks", at)


def are_parts(size, people, between, thing):
    """Whether any value is pairs of a lot, not (), and a person, with each wish between just once."""
    if not isinstance(thing, tuple):
        return False
    if not all([is_pair(size, people, pair) for pair in thing]):
        return False
    wishes = []
    for lot, _ in thing:
        wishes.extend(list(lot))
    return tuple(sorted(wishes)) == between


def is_pair(size, people, thing):
    """Whether any value is a pair of a lot of wishes, not (), and a person."""
    if not is_tuple_of(2, thing) or not is_lot(size, thing[0]):
        return False
    return len(thing[0]) > 0 and is_below(people, thing[1])
