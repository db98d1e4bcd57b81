"""The checker of lies that gain."""

from someoneout.boardkinds import place_number
from someoneout.circles import ends_of
from someoneout.claims import is_claim
from someoneout.demands import demand, need
from someoneout.endboards import all_rows, is_end_telling, place_for
from someoneout.kinds import is_below, is_tuple_of
from someoneout.quotients import minus, reduced


def lets_lie(circle, claim, thing):
    """Half of what the person's amount at the one telling is above that at the other."""
    need(is_claim(circle, claim), "claim")
    demand(is_tuple_of(4, thing), "shape", -1)
    person, wish, here, there = thing
    demand(is_below(circle[1], person), "person", -1)
    demand(is_below(len(circle[2]), wish) and circle[2][wish] == person, "wish", -1)
    demand(is_end_telling(circle, here), "here", -1)
    demand(is_end_telling(circle, there) and is_next(circle, wish, here, there), "there", -1)
    rows = all_rows(circle)
    counts = [len(own) for own in rows]
    places = [place_number(counts, place_for(circle, rows, telling)) for telling in (here, there)]
    top, bottom = minus(claim[person][places[0]], claim[person][places[1]])
    demand(top > 0, "less", -1)
    return reduced(top, 2 * bottom)


def is_next(circle, wish, here, there):
    """Whether two end tellings differ in this wish alone, with no end between its worths."""
    if here[:wish] != there[:wish] or here[wish + 1:] != there[wish + 1:]:
        return False
    ends = ends_of(circle)
    return abs(ends.index(here[wish]) - ends.index(there[wish])) == 1
