"""Making houses, and how many wishes they have."""

from someoneout.demands import need
from someoneout.errors import NotUsable
from someoneout.housechecker import is_house, is_link, wish_count
from someoneout.kinds import is_number


def size_of(house):
    """How many wishes the house has."""
    return wish_count(house)


def seats_house(size, seats):
    """The house of limits in which so many of all wishes can be granted."""
    need(is_number(seats), "seats")
    if size == 0:
        return ("limits", 0, ())
    return ("limits", size, ((tuple(range(size)), seats),))


def windows_house(many, windows):
    """The house of slots in which each wish is suited by all slots of its window."""
    need(is_number(many), "many")
    need(are_windows(many, windows), "windows")
    return ("slots", many, tuple([tuple(range(first, last + 1)) for first, last in windows]))


def are_windows(many, thing):
    """Whether any value is a tuple of pairs of numbers below many, first at most last."""
    return isinstance(thing, tuple) and all([is_link(many, window) for window in thing])


def beside(*houses):
    """The houses beside one another, in sequence; a single one as it is."""
    if len(houses) == 0:
        raise NotUsable("houses", -1)
    for at, house in enumerate(houses):
        if not is_house(house):
            raise NotUsable("houses", at)
    if len(houses) == 1:
        return houses[0]
    plain = []
    for house in houses:
        plain.extend(list(house[1]) if house[0] == "beside" else [house])
    return ("beside", tuple(plain))
