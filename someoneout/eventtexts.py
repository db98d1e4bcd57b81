"""Events and logs as lines."""

from someoneout.circletexts import house_line, numbers_text
from someoneout.demands import need
from someoneout.figures import figures_of
from someoneout.officeevents import is_event, is_log


def event_line(event):
    """The line of the event."""
    need(is_event(event), "event")
    return line_of(event)


def line_of(event):
    """The line of what is known to be an event."""
    word = event[0]
    if len(event) == 1:
        return word
    if word == "house":
        return word + " " + house_line(event[1])
    if word == "settle":
        return word + " " + figures_of(event[1]) + " " + way_text(event[2])
    return word + " " + numbers_text(event[1:])


def way_text(way):
    """The fields of the way."""
    if isinstance(way, str):
        return way
    return way[0] + " " + figures_of(way[1])


def log_text(log):
    """The lines of the log's events, with newlines between."""
    need(is_log(log), "log")
    return "\n".join([line_of(event) for event in log])
