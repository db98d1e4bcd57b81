"""Pieces that leave nobody out, and whether a circle stays."""

from someoneout.pieces import pieces_of
from someoneout.zonehouses import zone_pieces
from someoneout.zones import zones_of


def full_pieces(circle):
    """The full pieces of the circle's house, by their least wish."""
    return tuple([piece for piece in pieces_of(circle[0]) if is_full(circle, piece)])


def is_full(circle, lot):
    """Whether each person owns a wish of what is known to be a lot."""
    people, owners = circle[1:3]
    return len(set([owners[wish] for wish in lot])) == people


def full_zones(circle):
    """All pairs of a zone and a full piece of its house, told by the numbers of the circle."""
    pairs = []
    for zone in zones_of(circle):
        pairs.extend([(zone, piece) for piece in zone_pieces(circle, zone) if is_full(circle, piece)])
    return tuple(pairs)


def stays(circle):
    """Whether in each zone each piece leaves somebody out."""
    return len(full_zones(circle)) == 0
