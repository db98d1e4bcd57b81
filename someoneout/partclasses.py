"""A circle, and what comes of its pieces, as an object."""

from someoneout.circles import is_circle
from someoneout.demands import need
from someoneout.leavings import full_pieces, stays
from someoneout.pieces import pieces_of
from someoneout.zonehouses import zone_pieces
from someoneout.zones import zones_of


class Parted:
    """A circle that is parted into pieces, as a whole and zone by zone."""

    def __init__(self, circle):
        need(is_circle(circle), "circle")
        self.circle = circle

    def pieces(self):
        """The pieces of the house."""
        return pieces_of(self.circle[0])

    def full(self):
        """The full pieces of the house."""
        return full_pieces(self.circle)

    def stays(self):
        """Whether the circle stays."""
        return stays(self.circle)

    def zones(self):
        """Each zone and its pieces."""
        return tuple([(zone, zone_pieces(self.circle, zone)) for zone in zones_of(self.circle)])

    def told(self):
        """The circle."""
        return self.circle

    def __eq__(self, other):
        return isinstance(other, Parted) and self.circle == other.circle
