"""Circles as objects."""

from someoneout.circlechanges import beside_circles, finer, kept_circle
from someoneout.circlekinds import are_owners, are_stretches, is_people
from someoneout.circles import left_out, own_lot
from someoneout.demands import need
from someoneout.housechecker import is_house, wish_count


class Circle:
    """A house with its persons, the owners of its wishes and their stretches."""

    def __init__(self, house, people, owners, stretches):
        need(is_house(house), "house")
        need(is_people(people), "people")
        size = wish_count(house)
        need(are_owners(size, people, owners), "owners")
        need(are_stretches(size, stretches), "stretches")
        self.quadruple = (house, people, owners, stretches)

    def told(self):
        """The quadruple."""
        return self.quadruple

    def own(self, person):
        """The lot of the person's wishes."""
        return own_lot(self.quadruple, person)

    def leaves_out(self, lot):
        """All persons who own no wish of the lot."""
        return left_out(self.quadruple, lot)

    def finer(self, many):
        """The circle with each low and high times many."""
        house, people, owners, stretches = finer(self.quadruple, many)
        return Circle(house, people, owners, stretches)

    def kept(self, lot):
        """The circle with the wishes of the lot alone."""
        house, people, owners, stretches = kept_circle(self.quadruple, lot)
        return Circle(house, people, owners, stretches)

    def __add__(self, other):
        need(isinstance(other, Circle), "other")
        house, people, owners, stretches = beside_circles(self.quadruple, other.quadruple)
        return Circle(house, people, owners, stretches)

    def __len__(self):
        return len(self.quadruple[2])

    def __eq__(self, other):
        return isinstance(other, Circle) and self.quadruple == other.quadruple
