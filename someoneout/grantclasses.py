"""A house and a telling of it, as an object."""

from someoneout.demands import need
from someoneout.gates import gate_of
from someoneout.grantrules import is_house_telling
from someoneout.grants import best_worth, granted
from someoneout.heirs import heir_of
from someoneout.housechecker import is_house
from someoneout.worthchanges import put_worth


class Grant:
    """A house with a telling of it."""

    def __init__(self, house, telling):
        need(is_house(house), "house")
        need(is_house_telling(house, telling), "telling")
        self.house = house
        self.telling = telling

    def lot(self):
        """The granted lot."""
        return granted(self.house, self.telling)

    def worth(self):
        """The best worth."""
        return best_worth(self.house, self.telling)

    def gate(self, wish):
        """The gate of the wish, or None."""
        return gate_of(self.house, self.telling, wish)

    def heir(self, wish):
        """The heir of the granted wish, or None."""
        return heir_of(self.house, self.telling, wish)

    def put(self, wish, worth):
        """A new Grant, with the worth in the place of the wish."""
        return Grant(self.house, put_worth(self.telling, wish, worth))

    def told(self):
        """The pair of house and telling."""
        return (self.house, self.telling)

    def __eq__(self, other):
        return isinstance(other, Grant) and self.house == other.house and self.telling == other.telling
