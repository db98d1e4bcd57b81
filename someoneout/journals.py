"""What each day of a log did to the accounts, and the tills at their ends."""

from someoneout.circlekinds import is_people
from someoneout.demands import need
from someoneout.officeevents import is_log
from someoneout.offices import Office


def day_ends(people, log):
    """For the end of each day of the log the accounts and the till then."""
    need(is_people(people), "people")
    need(is_log(log), "log")
    office = Office(people)
    ends = []
    for event in log:
        office.go(event)
        if event[0] == "day":
            accounts = [office.account(person) for person in range(office.people_now())]
            ends.append((accounts, office.till_now()))
    return ends


def days_of(people, log):
    """By how much each day changed the accounts."""
    days = []
    before = []
    for accounts, _ in day_ends(people, log):
        # Who joined since then had nothing.
        earlier = before + [0] * (len(accounts) - len(before))
        days.append(tuple([now - then for now, then in zip(accounts, earlier)]))
        before = accounts
    return tuple(days)


def tills_of(people, log):
    """The till at the end of each day."""
    return tuple([till for _, till in day_ends(people, log)])
