"""Tables with a till of nought for each circle that stays, with nobody worse off.

The best worth is the least end times the rank of all wishes, and for each zone its height times
the rank of the high wishes, and what each piece of the zone house adds. In each piece somebody
whom it leaves out takes what the others pay there.
"""

from someoneout.circles import ends_of
from someoneout.handing import not_of, taker_due, tellings_without
from someoneout.kinds import lot_number
from someoneout.ranks import rank_table
from someoneout.staypapers import pairs_in
from someoneout.zones import zone_lots, zones_of


def stay_tables(circle):
    """Any tables with the till 0 at each place, with nobody worse off; Full if the circle does not stay."""
    zones = [(zone, pairs_in(circle, zone)) for zone in zones_of(circle)]
    ranks = rank_table(circle[0])
    sure = sure_worth(circle, ranks)
    tables = []
    for person in range(circle[1]):
        dues = []
        for telling in tellings_without(circle, person):
            # All but the first person pay for what is granted at all tellings.
            due = sure if person > 0 else 0
            due += sum([zone_due(circle, ranks, telling, zone, person) for zone in zones])
            dues.append((due, 1))
        tables.append(tuple(dues))
    return tuple(tables)


def sure_worth(circle, ranks):
    """What the best worth has at all tellings: by the least end, and by the high wishes of each zone."""
    ends = ends_of(circle)
    worth = ranks[-1] * ends[0] if len(ends) > 0 else 0
    for zone in zones_of(circle):
        above = zone_lots(circle, zone)[0]
        worth += (zone[1] - zone[0]) * ranks[lot_number(above)]
    return worth


def zone_due(circle, ranks, telling, zone_pairs, person):
    """The person's due in all pieces of one zone."""
    zone, pairs = zone_pairs
    above = zone_lots(circle, zone)[0]
    due = 0
    for piece, taker in pairs:
        lifted = tuple([wish for wish in piece if telling[wish] >= zone[1]])
        rests = [ranks_above(ranks, above, not_of(circle, lifted, other)) for other in range(circle[1])]
        due += taker_due(rests, taker) if person == taker else rests[person]
    return due * (zone[1] - zone[0])


def ranks_above(ranks, above, lot):
    """What the lot adds to the rank of the high wishes."""
    start = lot_number(above)
    return ranks[start + lot_number(lot)] - ranks[start]
