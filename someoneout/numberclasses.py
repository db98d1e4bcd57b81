"""A house, and what is told by its number, as an object."""

from someoneout.demands import need
from someoneout.housechanges import turned_house
from someoneout.housechecker import is_house
from someoneout.leans import lean_bases
from someoneout.leasts import term_of
from someoneout.sums import number_of, signed_sum


class Number:
    """A house whose number is asked for."""

    def __init__(self, house):
        need(is_house(house), "house")
        self.house = house

    def signed(self):
        """The signed sum."""
        return signed_sum(self.house)

    def number(self):
        """The number."""
        return number_of(self.house)

    def lean(self, order):
        """The lean bases by the order."""
        return lean_bases(self.house, order)

    def term(self, lot):
        """The term of the lot."""
        return term_of(self.house, lot)

    def turned(self):
        """A new Number of the turned house."""
        return Number(turned_house(self.house))

    def told(self):
        """The house."""
        return self.house

    def __eq__(self, other):
        return isinstance(other, Number) and self.house == other.house
