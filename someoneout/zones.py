"""Zones: between two ends next to each other, and which wishes are open there."""

from someoneout.circles import ends_of
from someoneout.demands import need
from someoneout.kinds import is_integer, is_tuple_of


def zones_of(circle):
    """All zones, ascending."""
    ends = ends_of(circle)
    return tuple([(ends[at], ends[at + 1]) for at in range(len(ends) - 1)])


def is_zone(circle, thing):
    """Whether any value is a zone of the circle."""
    # True is not 1.
    if not is_tuple_of(2, thing) or not is_integer(thing[0]) or not is_integer(thing[1]):
        return False
    return thing in zones_of(circle)


def zone_lots(circle, zone):
    """The lots of the wishes that are high, low and open in the zone."""
    need(is_zone(circle, zone), "zone")
    stretches = circle[3]
    above = tuple([wish for wish, (low, _) in enumerate(stretches) if low >= zone[1]])
    below = tuple([wish for wish, (_, high) in enumerate(stretches) if high <= zone[0]])
    between = tuple([wish for wish in range(len(stretches)) if wish not in above + below])
    return (above, below, between)
