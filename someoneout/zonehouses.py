"""Zone houses: what is open in a zone, the high wishes being granted before."""

from someoneout.kinds import lots_within
from someoneout.pieces import pieces_of
from someoneout.rankrules import lot_rank
from someoneout.zones import zone_lots


def zone_house(circle, zone):
    """The table house of the open wishes, numbered anew."""
    # This refuses what is no zone, too.
    above, _, between = zone_lots(circle, zone)
    return ("table", len(between), tuple(ranks_behind(circle[0], above, lots_within(between))))


def ranks_behind(house, above, lots):
    """What each of the lots adds to the rank of one that has none of their wishes."""
    least = lot_rank(house, above)
    return [lot_rank(house, tuple(sorted(lot + above))) - least for lot in lots]


def zone_pieces(circle, zone):
    """The pieces of the zone house, told by the numbers of the circle."""
    between = zone_lots(circle, zone)[2]
    pieces = pieces_of(zone_house(circle, zone))
    return tuple([tuple([between[wish] for wish in piece]) for piece in pieces])
