"""Logs done again, and cut."""

from someoneout.circlekinds import is_people
from someoneout.demands import need
from someoneout.kinds import is_number
from someoneout.officeevents import is_log
from someoneout.offices import Office


def replayed(people, log):
    """An office of so many persons that has done the log."""
    need(is_people(people), "people")
    need(is_log(log), "log")
    office = Office(people)
    office.do_all(log)
    return office


def cut_log(log, many):
    """The log's first so many events, and the rest."""
    need(is_log(log), "log")
    need(is_number(many), "many")
    return (log[:many], log[many:])
