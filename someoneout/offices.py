"""Offices that run rounds."""

from someoneout.demands import need
from someoneout.errors import InvalidEvent, NothingToUndo
from someoneout.kinds import is_integer
from someoneout.officeasks import OfficeAsks
from someoneout.officeevents import is_log
from someoneout.officereasons import first_reason
from someoneout.officesteps import after_event, settled_numbers


class Office(OfficeAsks):
    """An office: what it knows, its log, and what it knew before each event."""

    def __init__(self, people):
        super().__init__(people)
        self.events = ()
        self.past = ()

    def person(self):
        """A person joins."""
        return self.go(("person",))

    def house_in(self, house):
        """A round begins."""
        return self.go(("house", house))

    def take(self, number, wish, person, low, high):
        """In the round the person takes the wish."""
        return self.go(("take", number, wish, person, low, high))

    def drop(self, number, wish):
        """The wish is no longer taken."""
        return self.go(("drop", number, wish))

    def narrow(self, number, wish, low, high):
        """The stretch of the wish is now this one."""
        return self.go(("narrow", number, wish, low, high))

    def tell(self, number, wish, worth):
        """The worth of the wish is told."""
        return self.go(("tell", number, wish, worth))

    def settle(self, number, way):
        """The round is settled: the granted lot, the payments, their sum."""
        return self.go(("settle", number, way))

    def day(self):
        """A day ends."""
        return self.go(("day",))

    def go(self, event):
        """Do the event; InvalidEvent if it is refused."""
        reason = self.barred(event)
        if reason is not None:
            raise InvalidEvent(event, reason)
        known, given = after_event(self.known, event)
        self.events = self.events + (event,)
        self.past = self.past + (self.known,)
        self.known = known
        return given

    def barred(self, event):
        """Why the event would be refused, or None."""
        people, rounds, grants, _, _ = self.known
        return first_reason(people, rounds, settled_numbers(grants), event)

    def log(self):
        """The events done and not undone."""
        return self.events

    def do_all(self, events, keep=False):
        """Do all events; if one is refused, what was done before it is undone, unless keep is True."""
        need(is_log(events), "events")
        many = len(self.events)
        for event in events:
            reason = self.barred(event)
            if reason is not None:
                if keep is not True:
                    self.back_to(many)
                raise InvalidEvent(event, reason)
            self.go(event)

    def undo(self, steps=1):
        """All is as before the last so many events."""
        need(is_integer(steps) and steps >= 1, "steps")
        if steps > len(self.events):
            raise NothingToUndo(steps)
        self.back_to(len(self.events) - steps)

    def back_to(self, many):
        """All is as behind the first so many events of the log."""
        if many < len(self.events):
            self.known = self.past[many]
            self.events = self.events[:many]
            self.past = self.past[:many]

    def tried(self, events):
        """The accounts as they would be after all the events."""
        many = len(self.events)
        self.do_all(events)
        accounts = self.known[3]
        self.back_to(many)
        return accounts

    def __eq__(self, other):
        return isinstance(other, Office) and self.known == other.known and self.events == other.events
