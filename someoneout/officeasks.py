"""What can be asked of an office."""

from someoneout.circlekinds import is_people
from someoneout.circlespans import circle_span
from someoneout.demands import need
from someoneout.houses import beside
from someoneout.kinds import is_below
from someoneout.leavings import stays
from someoneout.officesteps import begun
from someoneout.settling import round_circle


class OfficeAsks:
    """Persons, rounds, accounts and a till."""

    def __init__(self, people):
        need(is_people(people), "people")
        self.known = begun(people)

    def people_now(self):
        """How many persons there are."""
        return self.known[0]

    def rounds_now(self):
        """All rounds, settled or not."""
        return self.known[1]

    def circle_in(self, number):
        """The circle of the round's taken wishes, with all persons there now."""
        need(is_below(len(self.known[1]), number), "number")
        house, takers = self.known[1][number]
        return round_circle(self.known[0], house, takers)

    def stays_in(self, number):
        """Whether the round's circle stays."""
        return stays(self.circle_in(number))

    def span_in(self, number):
        """The least span of the round's circle."""
        return circle_span(self.circle_in(number))

    def granted_in(self, number):
        """The lot granted when the round was settled, or None."""
        need(is_below(len(self.known[2]), number), "number")
        return self.known[2][number]

    def account(self, person):
        """The money that the person got, less what they paid."""
        need(is_below(self.known[0], person), "person")
        return self.known[3][person]

    def till_now(self):
        """All payments, added up."""
        return self.known[4]

    def calendar(self):
        """The circle of the taken wishes of all rounds that are not settled."""
        unsettled = [number for number, lot in enumerate(self.known[2]) if lot is None]
        circles = [self.circle_in(number) for number in unsettled]
        houses = [circle[0] for circle in circles]
        owners = []
        stretches = []
        for circle in circles:
            owners.extend(list(circle[2]))
            stretches.extend(list(circle[3]))
        house = ("table", 0, (0,)) if len(houses) == 0 else beside(*houses)
        return (house, self.known[0], tuple(owners), tuple(stretches))
